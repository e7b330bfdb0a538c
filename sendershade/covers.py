"""Letters in layers of covers: where a cover goes, what is still before it, what it has gone through."""

from sendershade.errors import Unfit
from sendershade.forms import frozen, is_below, is_from, is_row, is_set_below


def is_letter(net, thing):
    """Whether thing is a LETTER whose PERSONS and HOUSES net has."""
    if not is_row(thing, 4):
        return False
    people, houses = net
    sender, route, goal, word = thing
    if not is_set_below(route, houses) or route == ():
        return False
    return is_below(sender, people) and is_below(goal, people) and is_from(word, 0)


def is_cover(net, thing):
    """Whether thing is a COVER whose PERSONS and HOUSES net has."""
    if not is_row(thing, 2) or not is_letter(net, thing[0]):
        return False
    route = thing[0][1]
    return is_below(thing[1], len(route) + 1)


def wrapped(letter):
    """COVER 0 of letter."""
    return (frozen(letter), 0)


def layers(letter):
    """All COVERS of letter, COVER 0 first."""
    letter = frozen(letter)
    return tuple([(letter, place) for place in range(len(letter[1]) + 1)])


def spots_on(letter):
    """The SPOTS on the way of letter: its sender, the HOUSES, its goal."""
    sender, route, goal, _ = letter
    houses = [("house", house) for house in route]
    return (("person", sender), *houses, ("person", goal))


def goes_to(cover):
    """The SPOT that cover is for."""
    (_, route, goal, _), place = cover
    if place < len(route):
        return ("house", route[place])
    return ("person", goal)


def opened_cover(cover):
    """What comes if the HOUSE that cover is for opens it."""
    letter, place = frozen(cover)
    if goes_to(cover)[0] == "person":
        raise Unfit()
    return (letter, place + 1)


def still_before(cover):
    """The triple (route, goal, word) of what is still before cover."""
    letter, place = frozen(cover)
    _, route, goal, word = letter
    return (route[place:], goal, word)


def gone_through(cover):
    """The pair (sender, route) of what cover has gone through."""
    letter, place = frozen(cover)
    return (letter[0], letter[1][:place])


def like_before(one, other):
    """Whether both have the same still before them."""
    return still_before(one) == still_before(other)


def with_past(cover, sender, past):
    """The COVER that has gone through sender and past and has what cover has still before it."""
    route, goal, word = still_before(cover)
    past = frozen(past)
    if not past and not route:
        raise Unfit()
    if past and route and past[-1] >= route[0]:
        raise Unfit()
    return ((sender, past + route, goal, word), len(past))


def rests_exchanged(one, other):
    """Both COVERS, with what is still before them exchanged."""
    one_sender, one_past = gone_through(one)
    other_sender, other_past = gone_through(other)
    return (with_past(other, one_sender, one_past), with_past(one, other_sender, other_past))


def unrolled(rest, cover):
    """cover and all COVERS that come of it by HOUSES of the rest alone, one by one."""
    cover = frozen(cover)
    told = [cover]
    word, place = goes_to(cover)
    while word == "house" and place in rest[1]:
        cover = opened_cover(cover)
        told.append(cover)
        word, place = goes_to(cover)
    return tuple(told)


def next_mixing(rest, cover):
    """The first steady HOUSE still before cover; None if there is none."""
    for house in still_before(cover)[0]:
        if house not in rest[1]:
            return house
    return None


def word_shown(rest, cover):
    """The word of cover, if it is for a PERSON of the rest, else None."""
    route, goal, word = still_before(cover)
    if route == () and goal in rest[0]:
        return word
    return None
