"""The table of a moment, played by itself and row by row, to compare the program with."""

from random import Random


def spot_of(cover):
    (_, route, goal, _), place = cover
    return ("house", route[place]) if place < len(route) else ("person", goal)


class Model:
    """A WORLD as lists that change."""

    def __init__(self, world):
        self.net, self.rest, self.rules, self.wishes, self.moment = world[:5]
        self.boxes = [[list(lying), list(taken), list(luck)] for lying, taken, luck in world[5]]
        self.roads, self.again = list(world[6]), list(world[7])

    def world(self):
        boxes = tuple(tuple(tuple(part) for part in box) for box in self.boxes)
        return (self.net, self.rest, self.rules, self.wishes, self.moment, boxes, tuple(self.roads), tuple(self.again))

    def go(self, cover, start):
        covers = [row[0] for row in self.roads]
        if cover in covers:
            self.again.append((self.moment, covers.index(cover)))
            return
        self.roads.append((cover, start, self.moment))
        kind, place = spot_of(cover)
        if kind == "house" and place in self.rest[1]:
            self.go((cover[0], cover[1] + 1), ("house", place))

    def come(self, token):
        kind, house = spot_of(self.roads[token][0])
        if kind == "person":
            return
        lying, taken, _ = self.boxes[house]
        _, _, _, doubles, marks = self.rules[house]
        if doubles and any(other == token for other, _ in taken):
            return
        sender = self.roads[token][0][0][0]
        if marks and any(self.roads[other][0][0][0] == sender for other, _ in taken):
            return
        lying.append(token)
        taken.append((token, self.moment))

    def let_go(self, house):
        lying, taken, luck = self.boxes[house]
        batch, keep, wait, _, _ = self.rules[house]
        many = 0
        if len(lying) >= batch + keep:
            many = len(lying) - keep
        if wait is not None and lying:
            if self.moment - max(moment for token, moment in taken if token == lying[0]) >= wait:
                many = len(lying)
        gone = []
        for _ in range(many):
            number = luck.pop(0) if luck else 0
            gone.append(lying.pop(number % len(lying)))
        for token in gone:
            letter, place = self.roads[token][0]
            self.go((letter, place + 1), ("house", house))
        return gone

    def play(self, choice):
        self.moment += 1
        for letter in choice[0]:
            self.go((letter, 0), ("person", letter[0]))
        for person, wish in enumerate(self.wishes):
            if wish is not None and wish[0] == self.moment:
                self.go((wish[1], 0), ("person", person))
        for token in choice[1]:
            self.come(token)
        for house in range(self.net[1]):
            if house not in self.rest[1]:
                self.let_go(house)


def some_letter(chance, net, sender):
    route = tuple(house for house in range(net[1]) if chance.random() < 0.6)
    route = route or (chance.randrange(net[1]),)
    return (sender, route, chance.randrange(net[0]), chance.randrange(3))


def some_rule(chance, careful=False):
    wait = None if careful or chance.random() < 0.5 else chance.randrange(1, 4)
    marks = careful or chance.random() < 0.5
    doubles = careful or chance.random() < 0.5
    return (chance.randrange(1, 3), chance.randrange(3), wait, doubles, marks)


def some_start(chance):
    """The five arguments of a WORLD at its beginning."""
    net = (chance.randrange(1, 5), chance.randrange(1, 4))
    rest = (tuple(own for own in range(net[0]) if chance.random() < 0.4),
            tuple(own for own in range(net[1]) if chance.random() < 0.3))
    rules = tuple(some_rule(chance) for _ in range(net[1]))
    wishes = tuple(None if own in rest[0] or chance.random() < 0.2
                   else (chance.randrange(1, 4), some_letter(chance, net, own)) for own in range(net[0]))
    lucks = tuple(tuple(chance.randrange(9) for _ in range(chance.randrange(6))) for _ in range(net[1]))
    return net, rest, rules, wishes, lucks


def some_choice(chance, world):
    """A CHOICE that suits world; its letters are unlike as often as not."""
    net, rest, roads = world[0], world[1], world[6]
    letters = []
    if rest[0]:
        letters = [some_letter(chance, net, chance.choice(rest[0])) for _ in range(chance.randrange(3))]
    reach = [token for token, row in enumerate(roads)
             if spot_of(row[0])[1] not in (rest[1] if spot_of(row[0])[0] == "house" else rest[0])]
    comes = [chance.choice(reach) for _ in range(chance.randrange(5))] if reach else []
    return (tuple(letters), tuple(comes))


def some_run(number, many=8):
    """The arguments of a WORLD at its beginning, a PLAN for it, and all WORLDS along it."""
    chance = Random(number)
    net, rest, rules, wishes, lucks = some_start(chance)
    start = (net, rest, rules, wishes, 0, tuple(((), (), luck) for luck in lucks), (), ())
    model, plan, along = Model(start), [], [start]
    for _ in range(many):
        plan.append(some_choice(chance, model.world()))
        model.play(plan[-1])
        along.append(model.world())
    return (net, rest, rules, wishes, lucks), tuple(plan), along
