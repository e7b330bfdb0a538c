"""Worlds: nets with letters on their way, played moment by moment."""

from sendershade.bins import empty_bin, is_rule, moment_of
from sendershade.covers import goes_to, is_letter, opened_cover, wrapped
from sendershade.errors import NoToken, Unfit
from sendershade.forms import frozen, is_below, is_from, is_number, is_row
from sendershade.luck import is_luck
from sendershade.nets import is_net, is_rest, is_steady


class Roads:
    """The roads of a WORLD while a moment of it is played."""

    def __init__(self, world):
        self.rest = world[1]
        self.moment = world[4] + 1
        self.rows = list(world[6])
        self.repeats = list(world[7])
        self.places = {row[0]: place for place, row in enumerate(world[6])}

    def put(self, cover, spot):
        """cover goes on the roads, from spot."""
        if cover in self.places:
            self.repeats.append((self.moment, self.places[cover]))
            return
        self.places[cover] = len(self.rows)
        self.rows.append((cover, spot, self.moment))
        goal = goes_to(cover)
        if goal[0] == "house" and not is_steady(self.rest, goal):
            self.put(opened_cover(cover), goal)


def _is_wish(net, rest, person, thing):
    """Whether thing is a WISH of person, None if this is one of the rest."""
    if thing is None:
        return True
    if person in rest[0] or not is_row(thing, 2):
        return False
    return is_from(thing[0], 1) and is_letter(net, thing[1]) and thing[1][0] == person


def is_wishes(net, rest, thing):
    """Whether thing is WISHES, of LETTERS of net, None for the PERSONS of rest."""
    if not is_row(thing, net[0]):
        return False
    return all([_is_wish(net, rest, person, wish) for person, wish in enumerate(thing)])


def _are_rules(net, thing):
    return is_row(thing, net[1]) and all([is_rule(rule) for rule in thing])


def _are_fresh_bins(net, thing):
    """Whether thing is a tuple with, for each HOUSE, a BIN into which nothing came."""
    if not is_row(thing, net[1]):
        return False
    return all([is_row(box, 3) and box[0] == () and box[1] == () and is_luck(box[2]) for box in thing])


def is_begun(thing):
    """Whether thing is a WORLD at its beginning."""
    if not is_row(thing, 8):
        return False
    net, rest, rules, wishes, moment, bins, roads, again = thing
    if not is_net(net) or not is_rest(net, rest) or not _are_rules(net, rules):
        return False
    if not is_wishes(net, rest, wishes) or not _are_fresh_bins(net, bins):
        return False
    return is_number(moment) and moment == 0 and roads == () and again == ()


def begun_world(net, rest, rules, wishes, lucks):
    """The WORLD at its beginning."""
    bins = tuple([empty_bin(luck) for luck in lucks])
    return (frozen(net), frozen(rest), frozen(rules), frozen(wishes), 0, bins, (), ())


def suits(world, thing):
    """Whether thing is a CHOICE that suits world, which is frozen."""
    if not is_row(thing, 2) or not isinstance(thing[0], tuple) or not isinstance(thing[1], tuple):
        return False
    net, rest, roads = world[0], world[1], world[6]
    for letter in thing[0]:
        if not is_letter(net, letter) or letter[0] not in rest[0]:
            return False
    for token in thing[1]:
        if not is_below(token, len(roads)) or not is_steady(rest, goes_to(roads[token][0])):
            return False
    return True


def is_choice(world, thing):
    """Whether thing is a CHOICE that suits world."""
    return suits(frozen(world), thing)


def in_reach(world):
    """The set of the TOKENS that may come."""
    rest = world[1]
    return tuple([token for token, row in enumerate(world[6]) if is_steady(rest, goes_to(row[0]))])


def senders_of(world):
    """The tuple of the senders of the letters of all TOKENS."""
    return tuple([row[0][0][0] for row in world[6]])


def _send(roads, wishes, letters):
    """The letters of the rest, and of the PERSONS whose WISH has this moment, go on the roads."""
    for letter in letters:
        roads.put(wrapped(letter), ("person", letter[0]))
    for person, wish in enumerate(wishes):
        if wish is not None and wish[0] == roads.moment:
            roads.put(wrapped(wish[1]), ("person", person))


def moved(world, choice):
    """The WORLD played by a CHOICE that suits it; both are frozen."""
    net, rest, rules, wishes, moment, bins, rows, _ = world
    whose = senders_of(world)
    roads = Roads(world)
    _send(roads, wishes, choice[0])
    spots = [goes_to(rows[token][0]) for token in choice[1]]
    boxes = []
    # No HOUSE changes what comes to another one at this moment, so each is played to its end at once.
    for house, box in enumerate(bins):
        spot = ("house", house)
        if is_steady(rest, spot):
            comes = [token for token, goal in zip(choice[1], spots) if goal == spot]
            box, gone = moment_of(rules[house], box, comes, whose, moment + 1)
            for token in gone:
                roads.put(opened_cover(rows[token][0]), spot)
        boxes.append(box)
    return (net, rest, rules, wishes, moment + 1, tuple(boxes), tuple(roads.rows), tuple(roads.repeats))


def next_world(world, choice):
    """The WORLD played by choice."""
    world, choice = frozen(world), frozen(choice)
    if not suits(world, choice):
        raise Unfit()
    return moved(world, choice)


def new_on_roads(world, choice):
    """The pair of what choice puts behind ROADS and behind again."""
    later = next_world(world, choice)
    return (later[6][len(world[6]):], later[7][len(world[7]):])


def token_of(world, cover):
    """As road_token; both are frozen."""
    for token, row in enumerate(world[6]):
        if row[0] == cover:
            return token
    return None


def road_token(world, cover):
    """The TOKEN of cover; None if it is not on the roads."""
    return token_of(frozen(world), frozen(cover))


def _cover_of(world, token):
    """The COVER of token; NoToken(token) if world has none such."""
    if not 0 <= token < len(world[6]):
        raise NoToken(token)
    return world[6][token][0]


def spot_for(world, token):
    """The SPOT for which token is."""
    return goes_to(_cover_of(world, token))


def came_of(world, token):
    """The TOKEN of the COVER that was opened to that of token; None of a COVER 0."""
    letter, place = _cover_of(world, token)
    if place == 0:
        return None
    return road_token(world, (letter, place - 1))


def went_on(world, token):
    """The TOKEN of the COVER of token opened; None if this is not on the roads."""
    letter, place = _cover_of(world, token)
    return road_token(world, (letter, place + 1))


def taken_at(world, token):
    """The moments at which a steady HOUSE took token."""
    word, place = spot_for(world, token)
    if word == "person":
        return ()
    return tuple([moment for taken, moment in world[5][place][1] if taken == token])


def is_lying(world, token):
    """Whether token lies in a HOUSE."""
    word, place = spot_for(world, token)
    return word == "house" and token in world[5][place][0]


def how_full(world):
    """The tuple with, for each HOUSE, how many lie there."""
    return tuple([len(box[0]) for box in world[5]])
