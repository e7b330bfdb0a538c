"""Shades: which PERSONS a TOKEN may come from, with a CHAIN for each of these, a CUT for each other one."""

from sendershade.errors import NoPaper, Unfit
from sendershade.forms import as_set, frozen, is_below, is_set_below
from sendershade.sights import ahead_of_outs, all_outs_in, is_out, outs_at, ready_for
from sendershade.threads import sure_ways, threading_with_links
from sendershade.tokens import check_token


def _sources_of_out(sight, many, token):
    """The set of all that an out may come of, many being as ahead_of_outs tells; sight is frozen."""
    outs = outs_at(sight, sight[token][0][1])
    # What lies alone as something goes surely goes: no in that had come by then may come later.
    alone = [sight[own][2] for own in outs if own < token and many[own] == 1]
    last = max(alone, default=0)
    return tuple([own for own in ready_for(sight, token) if sight[own][3] > last])


def all_sources(sight):
    """The list of sources of all TOKENS; sight is frozen."""
    many, sure = ahead_of_outs(sight), sure_ways(sight)
    told = []
    for token, row in enumerate(sight):
        if is_out(row):
            told.append(_sources_of_out(sight, many, token))
        else:
            told.append(() if sure[token] is None else (sure[token],))
    return told


def may_come(sight, token, source):
    """Whether token comes of source in some THREADING."""
    sight = frozen(sight)
    check_token(token, sight)
    check_token(source, sight)
    return source in all_sources(sight)[token]


def sources(sight, token):
    """The set of all that token may come of."""
    sight = frozen(sight)
    check_token(token, sight)
    return all_sources(sight)[token]


def becomes(sight, source):
    """The set of all that may come of source."""
    sight = frozen(sight)
    check_token(source, sight)
    return tuple([token for token, own in enumerate(all_sources(sight)) if source in own])


def all_shades(sight, rows):
    """The list of the SHADES of all TOKENS, rows being their sources; sight is frozen."""
    told = []
    for token, row in enumerate(sight):
        people = [person for own in rows[token] for person in told[own]]
        if row[0][0] == "person":
            people.append(row[0][1])
        told.append(as_set(people))
    return told


def shade(sight, token):
    """The set of the PERSONS at whom CHAINS of token begin."""
    check_token(token, sight)
    return shades(sight)[token]


def shades(sight):
    """The tuple with the SHADE of each TOKEN."""
    sight = frozen(sight)
    return tuple(all_shades(sight, all_sources(sight)))


def sure_sender(sight, token):
    """The PERSON, if the SHADE of token has no other one; else None."""
    people = shade(sight, token)
    return people[0] if len(people) == 1 else None


def is_chain(sight, thing):
    """Whether thing is a CHAIN."""
    sight = frozen(sight)
    if not isinstance(thing, tuple) or thing == () or not all([is_below(token, len(sight)) for token in thing]):
        return False
    rows = all_sources(sight)
    if sight[thing[0]][0][0] != "person":
        return False
    return all([thing[place] in rows[thing[place + 1]] for place in range(len(thing) - 1)])


def chain(sight, token, person):
    """A CHAIN of token that begins at person."""
    sight = frozen(sight)
    check_token(token, sight)
    rows = all_sources(sight)
    told = all_shades(sight, rows)
    if person not in told[token]:
        raise NoPaper()
    row = [token]
    while sight[row[-1]][0][0] == "house":
        row.append([own for own in rows[row[-1]] if person in told[own]][0])
    return tuple(row[::-1])


def chain_count(sight, token, person):
    """How many CHAINS of token begin at person."""
    sight = frozen(sight)
    check_token(token, sight)
    told = []
    for own, row in enumerate(all_sources(sight)):
        begins = 1 if sight[own][0] == ("person", person) else 0
        told.append(begins + sum([told[source] for source in row]))
    return told[token]


def threading_with(sight, row):
    """A THREADING in which each TOKEN of row, a CHAIN, comes of the one ahead."""
    sight, row = frozen(sight), frozen(row)
    if not is_chain(sight, row):
        raise Unfit()
    links = {row[place + 1]: row[place] for place in range(len(row) - 1)}
    return threading_with_links(sight, {token: links[token] for token in all_outs_in(sight) if token in links})


def _all_behind(sight, token):
    """The set of token, of all that it may come of, and so on; sight is frozen."""
    rows = all_sources(sight)
    found = {token: True}
    # What a TOKEN comes of is a lesser one, so one look at each, from the greatest on, finds all.
    for own in range(token, -1, -1):
        if own in found:
            for source in rows[own]:
                found[source] = True
    return tuple(sorted(found))


def cut(sight, token, person):
    """The CUT that bars person from token, with the fewest TOKENS."""
    sight = frozen(sight)
    check_token(token, sight)
    told = _all_behind(sight, token)
    if not _is_clear(sight, told, person):
        raise NoPaper()
    return told


def _is_clear(sight, tokens, person):
    """Whether none of tokens is from person; sight is frozen."""
    return all([sight[own][0] != ("person", person) for own in tokens])


def is_cut(sight, token, person, thing):
    """Whether thing is a CUT that bars person from token."""
    sight = frozen(sight)
    check_token(token, sight)
    if not is_set_below(thing, len(sight)) or token not in thing or not _is_clear(sight, thing, person):
        return False
    rows = all_sources(sight)
    return all([source in thing for own in thing for source in rows[own]])


def shades_apart(sight, token, mate):
    """Whether no PERSON is in the SHADES of both token and mate."""
    check_token(token, sight)
    check_token(mate, sight)
    told = shades(sight)
    return not any([person in told[mate] for person in told[token]])


def thinnest(sight):
    """The pair of the fewest PERSONS in the SHADE of an out, and of the least such out; None if there are no outs."""
    told = shades(sight)
    return min([(len(told[token]), token) for token in all_outs_in(sight)], default=None)
