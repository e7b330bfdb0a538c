"""Goals: to whom a letter may go, and which links may hold at once."""

from sendershade.errors import NoPaper, NoToken, Unfit
from sendershade.forms import as_set, frozen, is_below, is_from, is_number, is_row, is_set_below
from sendershade.shades import all_sources
from sendershade.sights import ahead_of_outs, houses_in, is_in, is_out, is_own, lying_behind, outs_at, sent_by
from sendershade.threads import is_threading, threading_with_links, way_from


def _is_hidden(sight, token):
    """Whether a number is a TOKEN of sight that is not known."""
    return 0 <= token < len(sight) and not is_own(sight[token])


def _check_hidden(sight, token):
    if not _is_hidden(sight, token):
        raise NoToken(token)


def _sent_token(sight, person):
    """As sent_by; Unfit() without."""
    token = sent_by(sight, person)
    if token is None:
        raise Unfit()
    return token


def end_in(sight, threading, token):
    """The TOKEN at which what token sends on ends in threading."""
    _check_hidden(sight, token)
    return way_from(threading, token)[-1]


def _never_opened(sight, token):
    """Whether a TOKEN for a HOUSE that no steady one took is not opened by the rest, either."""
    # What the rest opened has what came of it right behind it.
    return token + 1 == len(sight) or sight[token + 1][4] != ("opened", token)


def _open_ones(sight):
    """The set of the TOKENS, not known, that may be the end, and open; sight is frozen."""
    many, told = ahead_of_outs(sight), []
    for token, row in enumerate(sight):
        if is_in(row):
            # It may stay as long as whatever goes may be another one.
            later = [own for own in outs_at(sight, row[1][1]) if sight[own][2] >= row[3]]
            if all([many[own] > 1 for own in later]):
                told.append(token)
        elif row[1][0] == "house" and not is_own(row) and _never_opened(sight, token):
            told.append(token)
    return tuple(told)


def may_be_open(sight, token):
    """Whether token is the end, and open, in some THREADING."""
    sight = frozen(sight)
    _check_hidden(sight, token)
    return token in _open_ones(sight)


def _reach(sight, rows, token):
    """The set of token, of all that may come of it, and so on; rows are the sources of all TOKENS."""
    found = {token: True}
    # What a TOKEN comes of is a lesser one, so one look at each finds all.
    for own in range(token + 1, len(sight)):
        if any([source in found for source in rows[own]]):
            found[own] = True
    return tuple(sorted(found))


def _goals(net, sight, tokens):
    """The list with, for each of tokens, the set of the PERSONS to whom it may have gone; None for None."""
    rows, ones, told = all_sources(sight), _open_ones(sight), []
    for token in tokens:
        reach = () if token is None else _reach(sight, rows, token)
        if token is None:
            told.append(None)
        elif any([own in ones for own in reach]):
            told.append(tuple(range(net[0])))
        else:
            told.append(as_set([sight[own][1][1] for own in reach if sight[own][1][0] == "person"]))
    return told


def goals_of(net, sight, person):
    """The set of the PERSONS to whom what person sent may have gone; all of net, if it may be open."""
    sight = frozen(sight)
    return _goals(net, sight, [_sent_token(sight, person)])[0]


def all_goals(net, sight):
    """The tuple with, for each PERSON of net, the set of goals_of; None for who sent nothing."""
    sight = frozen(sight)
    return tuple(_goals(net, sight, [sent_by(sight, person) for person in range(net[0])]))


def _ends_for(sight, goal):
    """The set of the TOKENS, not known, that are for goal, or may be open."""
    ones = _open_ones(sight)
    return tuple([token for token, row in enumerate(sight)
                  if token in ones or (row[1] == ("person", goal) and not is_own(row))])


def goal_threading(sight, person, goal):
    """A THREADING in which what person sent has gone to goal, or is open."""
    sight = frozen(sight)
    start = _sent_token(sight, person)
    rows = all_sources(sight)
    reach = _reach(sight, rows, start)
    ends = [token for token in _ends_for(sight, goal) if token in reach]
    if not ends:
        raise NoPaper()
    way = [ends[0]]
    while way[-1] != start:
        way.append([source for source in rows[way[-1]] if source in reach][0])
    pairs = [(way[place + 1], way[place]) for place in range(len(way) - 1)]
    if sight[ends[0]][1][0] == "house":
        pairs.append((ends[0], None))
    return _threading_with(sight, pairs)


def is_goal_threading(sight, person, goal, thing):
    """Whether thing is a THREADING in which what person sent has gone to goal, or is open."""
    sight = frozen(sight)
    start = _sent_token(sight, person)
    if not is_threading(sight, thing):
        return False
    spot = sight[way_from(thing, start)[-1]][1]
    return spot[0] == "house" or spot[1] == goal


def goal_cut(sight, person, goal):
    """A GOAL CUT that bars what person sent from goal, with the fewest TOKENS."""
    sight = frozen(sight)
    told = _reach(sight, all_sources(sight), _sent_token(sight, person))
    ends = _ends_for(sight, goal)
    if any([token in ends for token in told]):
        raise NoPaper()
    return told


def is_goal_cut(sight, person, goal, thing):
    """Whether thing is a GOAL CUT that bars what person sent from goal."""
    sight = frozen(sight)
    start = _sent_token(sight, person)
    if not is_set_below(thing, len(sight)) or start not in thing:
        return False
    rows, ends = all_sources(sight), _ends_for(sight, goal)
    if any([is_own(sight[token]) or token in ends for token in thing]):
        return False
    return all([token in thing for token in range(len(sight)) if any([source in thing for source in rows[token]])])


def _check_pairs(sight, pairs):
    """Raise Unfit() if pairs, whatever it is, is no PAIRS of sight."""
    if not isinstance(pairs, tuple) or not all([is_row(pair, 2) for pair in pairs]):
        raise Unfit()
    tokens = [token for token, _ in pairs] + [later for _, later in pairs if later is not None]
    if not all([is_number(token) and _is_hidden(sight, token) for token in tokens]):
        raise Unfit()


def _stays_over(sight, pair, house, moment):
    """Whether a pair of a TOKEN for house stays over moment."""
    token, later = pair
    _, goal, _, came, _ = sight[token]
    if goal != ("house", house) or came is None or came > moment:
        return False
    return later is None or sight[later][2] > moment


def _held_over(sight, pairs, house, moment):
    """As held_over; all is frozen."""
    return tuple([place for place, pair in enumerate(pairs) if _stays_over(sight, pair, house, moment)])


def held_over(sight, pairs, house, moment):
    """The set of the numbers of the pairs of TOKENS for house that stay over moment."""
    sight, pairs = frozen(sight), frozen(pairs)
    _check_pairs(sight, pairs)
    return _held_over(sight, pairs, house, moment)


def _never(sight, pair):
    """Whether no THREADING has pair."""
    token, later = pair
    if later is None:
        return sight[token][1][0] == "house" and token not in _open_ones(sight)
    return token not in all_sources(sight)[later]


def _twice(one, other):
    """Whether two pairs are unlike, and have one token, or one later."""
    return one != other and (one[0] == other[0] or (one[1] is not None and one[1] == other[1]))


def _full_house(sight, pairs):
    """A BAR of a HOUSE in which fewer lie than are held over a moment; None without. No two pairs are twice."""
    for house in houses_in(sight):
        for moment in as_set([sight[token][2] for token in outs_at(sight, house)]):
            firsts = {}
            for place in _held_over(sight, pairs, house, moment):
                firsts.setdefault(pairs[place][0], place)
            if len(firsts) > lying_behind(sight, house, moment):
                return ("over", house, moment, as_set(list(firsts.values())))
    return None


def _bar(sight, pairs):
    """A BAR of pairs; None without."""
    for place, pair in enumerate(pairs):
        if _never(sight, pair):
            return ("never", place)
        for ahead in range(place):
            if _twice(pairs[ahead], pair):
                return ("twice", ahead, place)
    return _full_house(sight, pairs)


def _threading_with(sight, pairs):
    """A THREADING with pairs, of which no BAR is there."""
    links = {later: token for token, later in pairs if later is not None and is_out(sight[later])}
    return threading_with_links(sight, links, [token for token, later in pairs if later is None])


def can_all(sight, pairs):
    """Whether some THREADING has all pairs."""
    sight, pairs = frozen(sight), frozen(pairs)
    _check_pairs(sight, pairs)
    return _bar(sight, pairs) is None


def threading_with_all(sight, pairs):
    """A THREADING with all pairs."""
    sight, pairs = frozen(sight), frozen(pairs)
    _check_pairs(sight, pairs)
    if _bar(sight, pairs) is not None:
        raise NoPaper()
    return _threading_with(sight, pairs)


def pairs_bar(sight, pairs):
    """A BAR of pairs."""
    sight, pairs = frozen(sight), frozen(pairs)
    _check_pairs(sight, pairs)
    told = _bar(sight, pairs)
    if told is None:
        raise NoPaper()
    return told


def _is_over(sight, pairs, thing):
    """Whether thing, of four, is a BAR of a HOUSE in which fewer lie than are held over a moment."""
    _, house, moment, numbers = thing
    if not is_from(house, 0) or not is_number(moment) or not is_set_below(numbers, len(pairs)):
        return False
    held = _held_over(sight, pairs, house, moment)
    if not all([place in held for place in numbers]):
        return False
    tokens = [pairs[place][0] for place in numbers]
    return len(as_set(tokens)) == len(tokens) and len(tokens) > lying_behind(sight, house, moment)


def is_pairs_bar(sight, pairs, thing):
    """Whether thing is a BAR of pairs."""
    sight, pairs = frozen(sight), frozen(pairs)
    _check_pairs(sight, pairs)
    if not isinstance(thing, tuple) or thing == ():
        return False
    if thing[0] == "never":
        return len(thing) == 2 and is_below(thing[1], len(pairs)) and _never(sight, pairs[thing[1]])
    if thing[0] == "twice":
        if len(thing) != 3 or not is_below(thing[2], len(pairs)) or not is_below(thing[1], thing[2]):
            return False
        return _twice(pairs[thing[1]], pairs[thing[2]])
    return thing[0] == "over" and len(thing) == 4 and _is_over(sight, pairs, thing)


def has_pairs(threading, pairs):
    """Whether a THREADING has all pairs."""
    return all([token not in threading if later is None else threading[later] == token for token, later in pairs])


def sure_pairs(sight):
    """The set of the pairs (token, later), not known, that all THREADINGS have."""
    sight = frozen(sight)
    rows = all_sources(sight)
    return as_set([(row[0], later) for later, row in enumerate(rows) if len(row) == 1 and not is_own(sight[later])])
