"""WORLDS with careful RULES played by PLANS, SIGHTS of any form, and wrong ones made of right ones: all by numbers."""

from random import Random

from tests.model import Model, some_letter, some_rule, spot_of


def mixing_choice(chance, world):
    """A CHOICE by which most of what is on the roads comes to the HOUSES in some order, some of it twice."""
    net, rest, roads = world[0], world[1], world[6]
    letters = []
    if rest[0] and chance.random() < 0.3:
        letters = [some_letter(chance, net, chance.choice(rest[0])) for _ in range(chance.randrange(1, 3))]
    old = [row[0][0] for row in roads if row[0][0][0] in rest[0]]
    if old and chance.random() < 0.2:
        letters.append(chance.choice(old))
    reach = [token for token, row in enumerate(roads)
             if spot_of(row[0])[1] not in rest[1 if spot_of(row[0])[0] == "house" else 0]]
    comes = [token for token in reach if chance.random() < 0.7]
    chance.shuffle(comes)
    return (tuple(letters), tuple(comes + comes[:chance.randrange(2)]))


def some_scene(number, many=7):
    """A WORLD at its beginning with careful RULES, a PLAN for it, and all WORLDS along it."""
    chance = Random(number)
    net = (chance.randrange(2, 8), chance.randrange(1, 4))
    rest = (tuple(own for own in range(net[0]) if chance.random() < 0.2),
            tuple(own for own in range(net[1]) if chance.random() < 0.2))
    rules = tuple(some_rule(chance, own not in rest[1]) for own in range(net[1]))
    wishes = tuple(None if own in rest[0] or chance.random() < 0.1
                   else (chance.choice((1, 1, 2, 4)), some_letter(chance, net, own)) for own in range(net[0]))
    lucks = tuple(tuple(chance.randrange(9) for _ in range(chance.randrange(6))) for _ in range(net[1]))
    start = (net, rest, rules, wishes, 0, tuple(((), (), luck) for luck in lucks), (), ())
    model, plan, along = Model(start), [], [start]
    for _ in range(many):
        plan.append(mixing_choice(chance, model.world()))
        model.play(plan[-1])
        along.append(model.world())
    return start, tuple(plan), along


class Drawn:
    """A SIGHT that is put together PASSING by PASSING, as the table of its form lets it."""

    def __init__(self, chance, many):
        self.chance = chance
        self.net = (chance.randrange(2, 8), chance.randrange(1, 4))
        self.rest = (tuple(own for own in range(self.net[0]) if chance.random() < 0.2),
                     tuple(own for own in range(self.net[1]) if chance.random() < 0.2))
        self.rows, self.moment = [], 1
        self.unsent = [own for own in range(self.net[0]) if own not in self.rest[0]]
        self.letters = {}
        for _ in range(many):
            self.moment += chance.choice((0, 0, 0, 1, 1, 2))
            chance.choice((self.put_person, self.put_person, self.put_out, self.put_out, self.put_own))()

    def goal(self, low):
        """Some SPOT for one from a HOUSE below low, or from a PERSON if low is 0."""
        spots = [("house", own) for own in range(low, self.net[1])]
        if low > 0:
            spots.append(("person", self.chance.randrange(self.net[0])))
        return self.chance.choice(spots)

    def put(self, spot, goal, tag):
        came = None
        if goal[0] == "house" and goal[1] not in self.rest[1] and self.chance.random() < 0.85:
            came = self.moment + self.chance.randrange(1, 4)
        self.rows.append((spot, goal, self.moment, came, tag))
        if goal[0] != "house" or goal[1] not in self.rest[1]:
            return
        if tag is not None and tag[0] == "own":
            self.put_cover(tag[1], tag[2] + 1)
        else:
            self.put(goal, self.goal(goal[1] + 1), ("opened", len(self.rows) - 1))

    def put_cover(self, letter, place):
        way = [("person", letter[0])] + [("house", own) for own in letter[1]] + [("person", letter[2])]
        self.letters[letter] = (place, len(self.rows))
        self.put(way[place], way[place + 1], ("own", letter, place))

    def put_person(self):
        if self.unsent:
            own = self.unsent.pop(self.chance.randrange(len(self.unsent)))
            self.put(("person", own), self.goal(0), None)

    def put_own(self):
        ready = [(letter, place) for letter, (place, token) in self.letters.items()
                 if self.rows[token][3] is not None and self.rows[token][3] <= self.moment]
        if ready and self.chance.random() < 0.6:
            letter, place = self.chance.choice(ready)
            self.put_cover(letter, place + 1)
        elif self.rest[0]:
            letter = some_letter(self.chance, self.net, self.chance.choice(self.rest[0]))
            if letter not in self.letters:
                self.put_cover(letter, 0)

    def put_out(self):
        for house in self.chance.sample(range(self.net[1]), self.net[1]):
            spot = ("house", house)
            ins = [row for row in self.rows if row[1] == spot and row[3] is not None and row[3] <= self.moment
                   and (row[4] is None or row[4][0] != "own")]
            outs = [row for row in self.rows if row[0] == spot and row[4] is None]
            if len(outs) + self.chance.choice((0, 1, 1, 2)) < len(ins) and house not in self.rest[1]:
                self.put(spot, self.goal(house + 1), None)
                return


def some_sight(number, many=22):
    """A NET, a REST, and some thing that has the form of a SIGHT for them."""
    drawn = Drawn(Random(number), many)
    return drawn.net, drawn.rest, tuple(drawn.rows)


def some_sights(many):
    """SIGHTS of so many played WORLDS, and as many of any form."""
    from sendershade.sights import sight_of
    told = []
    for number in range(many):
        start, _, along = some_scene(number)
        told.append((start[0], start[1], sight_of(along[-1])))
        told.append(some_sight(number))
    return told


def rows_changed(rows, parts):
    """Copies of rows with one left out, put twice, exchanged with another, or changed; parts as other_parts tells."""
    told = []
    for place, row in enumerate(rows):
        told.append(rows[:place] + rows[place + 1:])
        told.append(rows[:place] + (row,) + rows[place:])
        for other in range(place):
            told.append(rows[:other] + (row,) + rows[other + 1:place] + (rows[other],) + rows[place + 1:])
        for way, new in parts(rows, place):
            told.append(rows[:place] + (row[:way] + (new,) + row[way + 1:],) + rows[place + 1:])
    return told


def other_parts(rows, place):
    """Pairs of a place in a row of a VIEW or SIGHT, and of what may stand there instead, right or wrong."""
    spots = [("person", 0), ("person", 1), ("house", 0), ("house", 1), ("house", 2), ("person", 9), ("town", 0)]
    told = [(way, spot) for way in (0, 1) for spot in spots]
    told += [(2, rows[place][2] + step) for step in (-1, 1, -9, 9)] + [(2, None), (2, True)]
    letter = (0, (0,), 1, 1)
    tags = [row[-2] for row in rows[:place + 2]] + [row[-1] for row in rows[:place + 2]]
    tags = [tag for tag in tags if isinstance(tag, tuple)]
    some = [None, True, 0, 1, 3, rows[place][2], rows[place][2] + 1, rows[place][2] + 3, -1, "own", (), ("own",),
            ("own", letter, 0), ("own", letter, 1), ("opened", place), ("opened", place - 1), ("opened", True),
            ["opened", place - 1], ("opened", None), ("opened", place - 1, 0)] + tags
    return told + [(way, part) for way in (3, 4) for part in some]
