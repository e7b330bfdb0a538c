"""Shares: in what part of all THREADINGS a PERSON is the sender, told by what lies together."""

from sendershade.errors import NoPaper, TooMany
from sendershade.forms import as_set, frozen, is_below, is_exactly, is_from, is_row
from sendershade.nets import fraction, fraction_compared, fraction_less, fraction_sum, fraction_times, is_fraction
from sendershade.sights import ins_at, is_out, is_own, outs_at, ready_for
from sendershade.threads import sender_in, sure_ways, threadings_in
from sendershade.tokens import check_token

NONE_OF_IT = (0, 1)
ALL_OF_IT = (1, 1)


def added_shares(more, less):
    """All of more added up, all of less taken away, without 0: lists of tuples of pairs as in SHARES."""
    told = {}
    for row in more:
        for person, part in row:
            told[person] = fraction_sum((told.get(person, NONE_OF_IT), part))
    for row in less:
        for person, part in row:
            told[person] = fraction_less(told.get(person, NONE_OF_IT), part)
    return tuple([(person, told[person]) for person in sorted(told) if told[person] != NONE_OF_IT])


def _pool_tokens(sight, links, token):
    """The ins from which an out without a LINK is taken, and the outs ahead that took of them; sight is frozen."""
    held = list(links.values())
    ins = [own for own in ready_for(sight, token) if own not in held]
    outs = [own for own in outs_at(sight, sight[token][0][1]) if own < token and own not in links]
    return (ins, outs)


def pool_size(sight, links, token):
    """How many there are from which an out without a LINK is taken, 0 if none; sight is frozen."""
    ins, outs = _pool_tokens(sight, links, token)
    return max(0, len(ins) - len(outs))


def _pool_in(sight, links, told, token):
    """As pool_at, of an out without a LINK, told being the SHARES of all lesser TOKENS; sight is frozen."""
    ins, outs = _pool_tokens(sight, links, token)
    return (len(ins) - len(outs), added_shares([told[own] for own in ins], [told[own] for own in outs]))


def shares_by(sight, links):
    """The list of the SHARES of all PASSINGS, of the THREADINGS with links alone.

    links is a dict of outs and their ins, which some THREADING has; sight is frozen.
    """
    sure, told = sure_ways(sight), []
    for token, row in enumerate(sight):
        if row[0][0] == "person":
            told.append(((row[0][1], ALL_OF_IT),))
        elif not is_out(row):
            told.append(told[sure[token]])
        elif token in links:
            told.append(told[links[token]])
        else:
            many, totals = _pool_in(sight, links, told, token)
            told.append(tuple([(person, fraction_times(part, (1, many))) for person, part in totals]))
    return told


def part_of(row, person):
    """The FRACTION that a tuple of pairs as in SHARES tells of person."""
    for other, part in row:
        if other == person:
            return part
    return NONE_OF_IT


def share(sight, token, person):
    """The part of all THREADINGS in which person is the sender of token."""
    return part_of(shares_of(sight, token), person)


def shares_of(sight, token):
    """The SHARES of token."""
    check_token(token, sight)
    return share_table(sight)[token]


def share_table(sight):
    """The tuple of the SHARES of all PASSINGS."""
    return tuple(shares_by(frozen(sight), {}))


def greatest_share(sight, token):
    """The pair of the PERSON with the greatest share in token, of several the least one, and of this share."""
    best = None
    for person, part in shares_of(sight, token):
        if best is None or fraction_compared(best[1], part) < 0:
            best = (person, part)
    return best


def sharers(sight, token, part):
    """The set of the PERSONS whose share in token is part or more."""
    return tuple([person for person, own in shares_of(sight, token) if fraction_compared(own, part) >= 0])


def counted_share(sight, token, person):
    """The share of person in token, told by going through all THREADINGS."""
    sight = frozen(sight)
    check_token(token, sight)
    rows = threadings_in(sight)
    return fraction(len([row for row in rows if sender_in(sight, row, token) == person]), len(rows))


def pool_at(sight, token):
    """The pair of how many lie ahead of an out, and of the shares in all these added up."""
    sight = frozen(sight)
    check_token(token, sight)
    if not is_out(sight[token]):
        raise NoPaper()
    return _pool_in(sight, {}, shares_by(sight, {}), token)


def lying_shares(sight, house):
    """The pair of how many lie in house behind all outs, and of the shares in all these added up."""
    sight = frozen(sight)
    told, ins, outs = shares_by(sight, {}), ins_at(sight, house), outs_at(sight, house)
    return (len(ins) - len(outs), added_shares([told[own] for own in ins], [told[own] for own in outs]))


def is_shares(thing):
    """Whether thing is SHARES."""
    if not isinstance(thing, tuple):
        return False
    if not all([is_row(pair, 2) and is_from(pair[0], 0) and is_fraction(pair[1]) for pair in thing]):
        return False
    people = [person for person, _ in thing]
    if as_set(people) != tuple(people) or not all([part[0] > 0 for _, part in thing]):
        return False
    return fraction_sum([part for _, part in thing]) == ALL_OF_IT


def _told_ahead(sight, token):
    """The TOKENS whose SHARES a SHARE PAPER tells ahead of that of token; sight is frozen."""
    row = sight[token]
    if is_out(row):
        outs = [own for own in outs_at(sight, row[0][1]) if own < token]
        return list(ready_for(sight, token)) + outs
    if row[0][0] == "person" or is_own(row):
        return []
    return [row[4][1]]


def share_paper(sight, token):
    """A SHARE PAPER of token, without pairs that are not needed."""
    sight = frozen(sight)
    check_token(token, sight)
    told, needed = shares_by(sight, {}), {token: True}
    # Those told ahead are lesser ones, so one look at each, from the greatest on, finds all.
    for own in range(token, -1, -1):
        if own in needed:
            for ahead in _told_ahead(sight, own):
                needed[ahead] = True
    return tuple([(own, told[own]) for own in sorted(needed)])


def _right_shares(sight, told, token):
    """The SHARES of token by those told ahead, a dict that has all that are needed; sight is frozen."""
    row = sight[token]
    if is_out(row):
        many, totals = _pool_in(sight, {}, told, token)
        return tuple([(person, fraction_times(part, (1, many))) for person, part in totals])
    if row[0][0] == "person":
        return ((row[0][1], ALL_OF_IT),)
    if is_own(row):
        return ((row[4][1][0], ALL_OF_IT),)
    return told[row[4][1]]


def is_share_paper(sight, token, thing):
    """Whether thing is a SHARE PAPER of token, also with pairs that are not needed."""
    sight = frozen(sight)
    check_token(token, sight)
    if not isinstance(thing, tuple) or not all([is_row(pair, 2) and is_below(pair[0], len(sight)) for pair in thing]):
        return False
    tokens = [own for own, _ in thing]
    if as_set(tokens) != tuple(tokens) or token not in tokens[-1:]:
        return False
    told = {}
    for own, row in thing:
        if not all([ahead in told for ahead in _told_ahead(sight, own)]):
            return False
        if not is_exactly(row, _right_shares(sight, told, own)):
            return False
        told[own] = row
    return True
