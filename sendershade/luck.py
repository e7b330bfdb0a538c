"""Luck: which things of a row go, one after the other, by numbers that are told ahead."""

from itertools import permutations
from math import perm

from sendershade.errors import TooMany, Unfit
from sendershade.forms import as_set, frozen, is_below, is_from
from sendershade.nets import fraction

MOST_THINGS = 60
MOST_PICKS = 5000


def is_luck(thing):
    """Whether thing is LUCK."""
    return isinstance(thing, tuple) and all([is_from(number, 0) for number in thing])


def next_luck(luck):
    """The pair of the next number of luck, 0 if none is left, and of the LUCK that is left."""
    luck = frozen(luck)
    if luck == ():
        return (0, ())
    return (luck[0], luck[1:])


def drawn(luck, size, many):
    """The picks, however great size is: a HOUSE may hold more than the points here ask for."""
    left = list(range(size))
    places = []
    for turn in range(many):
        number = luck[turn] if turn < len(luck) else 0
        places.append(left.pop(number % len(left)))
    return tuple(places)


def drawing(size, places):
    """The plain LUCK that draws these unlike places, however great size is."""
    left = list(range(size))
    numbers = []
    for place in places:
        number = left.index(place)
        numbers.append(number)
        left.pop(number)
    return tuple(numbers)


def _check_sizes(size, many):
    if not 0 <= many <= size <= MOST_THINGS:
        raise Unfit()


def _check_places(size, places):
    """Raise Unfit if one of places is none of a row of size things."""
    _check_sizes(size, 0)
    if not all([is_below(place, size) for place in places]):
        raise Unfit()


def picks(luck, size, many):
    """The places of the things that go, as they go."""
    _check_sizes(size, many)
    return drawn(luck, size, many)


def unpicked(luck, size, many):
    """The set of the places of the things that do not go."""
    gone = picks(luck, size, many)
    return tuple([place for place in range(size) if place not in gone])


def picks_count(size, many):
    """How many unlike picks there are."""
    _check_sizes(size, many)
    return perm(size, many)


def luck_for(size, places):
    """The plain LUCK that picks places."""
    _check_places(size, places)
    if len(as_set(places)) < len(places):
        raise Unfit()
    return drawing(size, places)


def plain_luck(luck, size, many):
    """The plain LUCK that picks as luck does."""
    return drawing(size, picks(luck, size, many))


def pick_alike(one, other, size, many):
    """Whether the LUCKS one and other pick alike."""
    return picks(one, size, many) == picks(other, size, many)


def first_unlike_pick(one, other, size, many):
    """The first turn at which one and other let other things go; None if there is none."""
    near, far = picks(one, size, many), picks(other, size, many)
    for turn in range(many):
        if near[turn] != far[turn]:
            return turn
    return None


def luck_number(luck, size, many):
    """The number, from 0, of the picks of luck among all picks, ascending."""
    number = 0
    # Plain LUCK tells each place by its rank among those left: the figures of a number whose base falls.
    for turn, figure in enumerate(plain_luck(luck, size, many)):
        number = number * (size - turn) + figure
    return number


def luck_at(number, size, many):
    """The plain LUCK of the picks with this number."""
    if not 0 <= number < picks_count(size, many):
        raise Unfit()
    figures = []
    for turn in reversed(range(many)):
        number, figure = divmod(number, size - turn)
        figures.append(figure)
    return tuple(figures[::-1])


def all_picks(size, many):
    """The list of all picks, ascending."""
    if picks_count(size, many) > MOST_PICKS:
        raise TooMany()
    return list(permutations(range(size), many))


def exchanged_luck(luck, size, many, one, other):
    """The plain LUCK that picks as luck does, but with the places one and other exchanged."""
    _check_places(size, (one, other))
    exchanged = {one: other, other: one}
    return drawing(size, [exchanged.get(place, place) for place in picks(luck, size, many)])


def picks_with(size, many, place, turn):
    """How many of all picks let the thing at place go at this turn."""
    _check_sizes(size, many)
    _check_places(size, (place,))
    if not is_below(turn, many):
        raise Unfit()
    return perm(size - 1, many - 1)


def part_gone(size, many, place):
    """The part of all picks in which the thing at place goes at all."""
    _check_sizes(size, many)
    _check_places(size, (place,))
    return fraction(many, size)
