"""Many rounds with one friend: who may be the friend of a PERSON, by several SIGHTS, or by sets of PERSONS shown."""

from itertools import combinations

from sendershade.errors import NoPaper, Unfit
from sendershade.forms import is_number, is_row, is_set_below
from sendershade.goals import goal_cut, goal_threading, goals_of, is_goal_cut, is_goal_threading
from sendershade.sights import sent_by


def writes_in(sights, person):
    """The set of the numbers of the SIGHTS in which person writes."""
    return tuple([number for number, sight in enumerate(sights) if sent_by(sight, person) is not None])


def goal_sets(net, sights, person):
    """The tuple of goals_of in the SIGHTS in which person writes."""
    return tuple([goals_of(net, sights[number], person) for number in writes_in(sights, person)])


def suspects(net, sights, person):
    """The set of the PERSONS who may be the friend of person by all SIGHTS."""
    return suspects_of(net[0], goal_sets(net, sights, person))


def found_at(net, sights, person):
    """The number of the first SIGHT by which, with those ahead of it, just one suspect is left; None without any."""
    for number in range(len(sights)):
        if len(suspects(net, sights[:number + 1], person)) == 1:
            return number
    return None


def round_paper(net, sights, person, friend):
    """A ROUND PAPER: that friend may be the friend of person."""
    if friend not in suspects(net, sights, person):
        raise NoPaper()
    return tuple([goal_threading(sights[number], person, friend) for number in writes_in(sights, person)])


def is_round_paper(net, sights, person, friend, thing):
    """Whether thing is a ROUND PAPER."""
    numbers = writes_in(sights, person)
    if not is_row(thing, len(numbers)):
        return False
    return all([is_goal_threading(sights[number], person, friend, part) for number, part in zip(numbers, thing)])


def clearing(net, sights, person, friend):
    """A CLEARING: that friend is not the friend of person."""
    for number, goals in zip(writes_in(sights, person), goal_sets(net, sights, person)):
        if friend not in goals:
            return (number, goal_cut(sights[number], person, friend))
    raise NoPaper()


def is_clearing(net, sights, person, friend, thing):
    """Whether thing is a CLEARING."""
    if not is_row(thing, 2) or not is_number(thing[0]) or thing[0] not in writes_in(sights, person):
        return False
    return is_goal_cut(sights[thing[0]], person, friend, thing[1])


def suspects_of(people, sets):
    """The set of the PERSONS below people that are in each of sets."""
    return tuple([person for person in range(people) if all([person in own for own in sets])])


def _is_lot(sets, lot):
    """Whether each of sets has one of lot."""
    return all([any([person in own for person in lot]) for own in sets])


def _least_lots(people, sets, many):
    """As friend_lots, but the fewest first."""
    told = []
    for size in range(min(people, many) + 1):
        for lot in combinations(range(people), size):
            # With one that can be left out it has all of a lesser LOT, which was found ahead of it.
            if _is_lot(sets, lot) and not any([all([own in lot for own in less]) for less in told]):
                told.append(lot)
    return told


def friend_lots(people, sets, many):
    """The list, ascending, of the LOTS of at most many members none of which can be left out."""
    return sorted(_least_lots(people, sets, many))


def sure_of(people, sets, many):
    """The set of the PERSONS in all LOTS of at most many."""
    lots = _least_lots(people, sets, many)
    if not lots:
        raise NoPaper()
    return suspects_of(people, lots)


def is_only(people, sets, many, thing):
    """Whether thing is a LOT of at most many, and there is no other."""
    if not is_set_below(thing, people) or len(thing) > many or not _is_lot(sets, thing):
        return False
    # With a PERSON more it is a LOT, too.
    if len(thing) < min(people, many):
        return False
    return _least_lots(people, sets, many) == [thing]


def least_rounds(people, each):
    """How few sets of each PERSONS below people can have just one in common."""
    if each > people:
        raise Unfit()
    if people == 1:
        return 0
    if each == people:
        raise NoPaper()
    # Each leaves out people - each, and all but one must be left out: so many, made greater to a whole number.
    return (people - 1 + people - each - 1) // (people - each)


def quick_sets(people, friend, each):
    """As few sets of each PERSONS below people as can be that have just friend in common."""
    many = least_rounds(people, each)
    others = [person for person in range(people) if person != friend]
    told = []
    for number in range(many):
        out = [others[(number * (people - each) + place) % len(others)] for place in range(people - each)]
        told.append(tuple([person for person in range(people) if person not in out]))
    return tuple(told)


def is_quick(people, friend, each, thing):
    """Whether thing is a tuple of sets of each PERSONS below people that have just friend in common."""
    if not isinstance(thing, tuple) or not all([is_set_below(own, people) and len(own) == each for own in thing]):
        return False
    return suspects_of(people, thing) == (friend,)
