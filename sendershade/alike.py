"""WORLDS with the same VIEW: one for each THREADING, with other WISHES and other LUCK."""

from sendershade.covers import goes_to, with_past
from sendershade.errors import Unfit
from sendershade.forms import as_set, frozen
from sendershade.plans import is_plan, played_out
from sendershade.shades import chain, threading_with
from sendershade.sights import check_careful, sight_of
from sendershade.swaps import along_row
from sendershade.threads import is_threading, threadings_in, true_threading, way_from
from sendershade.tokens import check_token
from sendershade.views import same_view
from sendershade.worlds import is_begun


def _last_of(world, plan):
    """The WORLD to which plan leads; Unfit() unless world begins and is careful, and plan is one for it."""
    world = frozen(world)
    if not is_begun(world):
        raise Unfit()
    check_careful(world)
    return played_out(world, plan)


def _last_with(world, plan, threading):
    """As _last_of; Unfit(), too, unless threading, which is frozen, is one of the SIGHT there."""
    last = _last_of(world, plan)
    if not is_threading(sight_of(last), threading):
        raise Unfit()
    return last


def _house_luck(last, threading, house):
    """The places in lying of the TOKENS that go out of a steady HOUSE, in order."""
    # What came later lies behind, and so changes no place: all may lie there from the beginning on.
    lying, luck = [own for own, _ in last[5][house][1]], []
    for token, (_, spot, _) in enumerate(last[6]):
        if spot == ("house", house):
            place = lying.index(threading[token])
            luck.append(place)
            lying.pop(place)
    return tuple(luck)


def _luck_by(last, threading):
    """As luck_by, last being the WORLD behind the PLAN; all is frozen."""
    _, houses = last[0]
    return tuple([() if house in last[1][1] else _house_luck(last, threading, house) for house in range(houses)])


def luck_by(world, plan, threading):
    """The tuple with, for each HOUSE, the LUCK by which it lets go what threading tells."""
    threading = frozen(threading)
    return _luck_by(_last_with(world, plan, threading), threading)


def _wish_by(last, threading, token):
    """The WISH, by threading, of the steady PERSON from whom token is."""
    way = way_from(threading, token)
    past = tuple([goes_to(last[6][own][0])[1] for own in way[:-1]])
    _, spot, sent = last[6][token]
    letter, _ = with_past(last[6][way[-1]][0], spot[1], past)
    return (sent, letter)


def wishes_along(last, threading):
    """As wishes_by, whatever the RULES are, last being the WORLD behind the PLAN; all is frozen."""
    told = list(last[3])
    for token, (_, spot, _) in enumerate(last[6]):
        if spot[0] == "person" and spot[1] not in last[1][0]:
            told[spot[1]] = _wish_by(last, threading, token)
    return tuple(told)


def wishes_by(world, plan, threading):
    """The WISHES by which, with luck_by, the letters go by threading and the VIEW is the same."""
    threading = frozen(threading)
    return wishes_along(_last_with(world, plan, threading), threading)


def _world_by(last, threading):
    """As alike_world, last being the WORLD behind the PLAN; all is frozen."""
    net, rest, rules = last[:3]
    bins = tuple([((), (), luck) for luck in _luck_by(last, threading)])
    return (net, rest, rules, wishes_along(last, threading), 0, bins, (), ())


def alike_world(world, plan, threading):
    """world with the WISHES and the LUCK by which the letters go by threading."""
    threading = frozen(threading)
    return _world_by(_last_with(world, plan, threading), threading)


def looks_alike(last, plan, thing):
    """Whether thing is a WORLD alike to that which plan led to last, whatever its RULES are; both are frozen."""
    if not is_begun(thing) or thing[:3] != last[:3] or not is_plan(thing, plan):
        return False
    return same_view(played_out(thing, plan), last)


def looks_alike_from(last, plan, token, person, thing):
    """Whether thing looks alike, and the letter of token, which is one of last, is person's there."""
    if not looks_alike(last, plan, thing):
        return False
    letter, _ = played_out(thing, plan)[6][token][0]
    return letter[0] == person


def is_alike(world, plan, thing):
    """Whether thing is an alike WORLD."""
    plan = frozen(plan)
    return looks_alike(_last_of(world, plan), plan, thing)


def threading_of(world, plan, other):
    """The THREADING that other, an alike WORLD, has behind plan."""
    plan, other = frozen(plan), frozen(other)
    if not looks_alike(_last_of(world, plan), plan, other):
        raise Unfit()
    return true_threading(played_out(other, plan))


def all_alike(world, plan):
    """The list of alike_world for all THREADINGS, in their order."""
    last = _last_of(world, plan)
    return [_world_by(last, threading) for threading in threadings_in(sight_of(last))]


def alike_along(world, plan, swaps):
    """The list of alike_world for the true THREADING, and behind each of swaps."""
    last = _last_of(world, plan)
    rows = along_row(sight_of(last), true_threading(last), frozen(swaps))
    return [_world_by(last, threading) for threading in rows]


def other_world(world, plan, token, person):
    """An alike WORLD in which the letter of token is person's."""
    last = _last_of(world, plan)
    sight = sight_of(last)
    return _world_by(last, threading_with(sight, chain(sight, token, person)))


def is_other(world, plan, token, person, thing):
    """Whether thing is an alike WORLD in which the letter of token is person's."""
    plan = frozen(plan)
    last = _last_of(world, plan)
    check_token(token, last[6])
    return looks_alike_from(last, plan, token, person, thing)


def letters_by(world, plan, person):
    """The set of the LETTERS whose COVER 0 goes on the roads from person in some of all_alike."""
    last = _last_of(world, plan)
    rows = threadings_in(sight_of(last))
    tokens = [token for token, row in enumerate(last[6]) if row[1] == ("person", person)]
    if person in last[1][0]:
        return as_set([last[6][token][0][0] for token in tokens])
    return as_set([_wish_by(last, threading, token)[1] for threading in rows for token in tokens])
