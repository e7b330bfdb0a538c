"""Threadings: all that may have come of what, as far as a SIGHT tells it."""

from sendershade.errors import TooMany, Unfit
from sendershade.forms import as_set, frozen, is_exactly, is_number, is_row
from sendershade.sights import (ahead_of_outs, all_outs_in, check_careful, check_out, come_home, ins_at, is_out,
                                is_own, ready_for)
from sendershade.tokens import check_token
from sendershade.worlds import token_of

MOST_THREADINGS = 5000


def sure_ways(sight):
    """The list of what each PASSING that is no out came of; None for an out, too. sight is frozen."""
    found, told = {}, []
    for token, (spot, _, _, _, tag) in enumerate(sight):
        if tag is None or spot[0] == "person":
            told.append(None)
        elif tag[0] == "opened":
            told.append(tag[1])
        else:
            told.append(found[(tag[1], tag[2] - 1)])
        if is_own(sight[token]):
            found[tag[1:]] = token
    return told


def is_threading(sight, thing):
    """Whether thing is a THREADING of sight."""
    sight = frozen(sight)
    if not is_row(thing, len(sight)):
        return False
    outs, sure = all_outs_in(sight), sure_ways(sight)
    if not all([is_exactly(thing[token], sure[token]) for token in range(len(sight)) if token not in outs]):
        return False
    if not all([is_number(thing[token]) and thing[token] in ready_for(sight, token) for token in outs]):
        return False
    return len(as_set([thing[token] for token in outs])) == len(outs)


def true_ways(world):
    """As true_threading, whatever the RULES are; world is frozen."""
    covers = [row[0] for row in world[6]]
    return tuple([None if place == 0 else token_of(world, (letter, place - 1)) for letter, place in covers])


def true_threading(world):
    """The THREADING that tells for each TOKEN that of which it came indeed."""
    world = frozen(world)
    check_careful(world)
    return true_ways(world)


def product_of(numbers):
    """All numbers multiplied; 1 without any."""
    told = 1
    for number in numbers:
        told = told * number
    return told


def count_in(sight):
    """As how_many; sight is frozen."""
    return product_of(list(ahead_of_outs(sight).values()))


def how_many(sight):
    """How many THREADINGS sight has."""
    return count_in(frozen(sight))


def threadings_in(sight):
    """As all_threadings; sight is frozen."""
    if count_in(sight) > MOST_THREADINGS:
        raise TooMany()
    sure = sure_ways(sight)
    rows = [()]
    for token, row in enumerate(sight):
        if is_out(row):
            ready = ready_for(sight, token)
            # An in is told of outs alone, so what stands in a row is taken.
            rows = [begun + (own,) for begun in rows for own in ready if own not in begun]
        else:
            rows = [begun + (sure[token],) for begun in rows]
    return rows


def all_threadings(sight):
    """The list of all THREADINGS of sight, ascending."""
    return threadings_in(frozen(sight))


def threading_with_links(sight, links, kept=()):
    """The least THREADING with links, a dict of outs and their ins, in which of none of kept something came.

    Some THREADING has all of these; sight is frozen.
    """
    held = list(links.values()) + list(kept)
    told = sure_ways(sight)
    for token in all_outs_in(sight):
        if token in links:
            told[token] = links[token]
        else:
            told[token] = [own for own in ready_for(sight, token) if own not in told and own not in held][0]
    return tuple(told)


def first_threading(sight):
    """The least THREADING of sight."""
    return threading_with_links(frozen(sight), {})


def _free_for(sight, threading, token):
    """As free_for, of an out; sight is frozen."""
    return [own for own in ready_for(sight, token) if own not in threading[:token]]


def threading_at(sight, number):
    """The THREADING that just number ones are ahead of."""
    sight = frozen(sight)
    behind = count_in(sight)
    if not 0 <= number < behind:
        raise Unfit()
    many, told = ahead_of_outs(sight), sure_ways(sight)
    for token in all_outs_in(sight):
        behind = behind // many[token]
        place, number = divmod(number, behind)
        told[token] = _free_for(sight, told, token)[place]
    return tuple(told)


def number_of(sight, threading):
    """How many THREADINGS are ahead of threading."""
    sight = frozen(sight)
    many, number = ahead_of_outs(sight), 0
    for token in all_outs_in(sight):
        number = number * many[token] + _free_for(sight, threading, token).index(threading[token])
    return number


def free_for(sight, threading, token):
    """The set of the ins that still lie in the HOUSE of an out as it goes."""
    sight = frozen(sight)
    check_out(sight, token)
    return tuple(_free_for(sight, threading, token))


def token_behind(threading, token):
    """The TOKEN that came of token; None without."""
    for later, own in enumerate(threading):
        if own == token:
            return later
    return None


def goes_on(sight, threading, token):
    """The TOKEN that came of token; None without."""
    check_token(token, sight)
    return token_behind(threading, token)


def _way_back(threading, token):
    """As way_back, of a TOKEN that is one."""
    told = []
    while token is not None:
        told.append(token)
        token = threading[token]
    return tuple(told)


def way_back(sight, threading, token):
    """The tuple of token, that of which it came, and so on, to one from a PERSON."""
    check_token(token, sight)
    return _way_back(threading, token)


def sender_in(sight, threading, token):
    """As sender_of, of a TOKEN that is one."""
    return sight[_way_back(threading, token)[-1]][0][1]


def sender_of(sight, threading, token):
    """The PERSON to whom way_back leads."""
    check_token(token, sight)
    return sender_in(sight, threading, token)


def way_from(threading, token):
    """As way_on, of a TOKEN that is one."""
    told = []
    while token is not None:
        told.append(token)
        token = token_behind(threading, token)
    return tuple(told)


def way_on(sight, threading, token):
    """The tuple of token, that which came of it, and so on."""
    check_token(token, sight)
    return way_from(threading, token)


def still_lying(sight, threading, house):
    """The set of the ins of house of which none came."""
    return tuple([token for token in ins_at(frozen(sight), house) if token not in threading])


def homes(sight, threading):
    """The set of the pairs of a TOKEN, not known, for a PERSON, and, ahead of it, of its sender."""
    return as_set([(sender_in(sight, threading, token), token) for token in come_home(sight)])


def threadings_from(sight, person, token):
    """The list of the THREADINGS, ascending, in which person is the sender of token."""
    sight = frozen(sight)
    check_token(token, sight)
    if is_own(sight[token]):
        raise Unfit()
    return [threading for threading in threadings_in(sight) if sender_in(sight, threading, token) == person]
