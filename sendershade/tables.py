"""Tables: where the letter of each sender is at last, and what is told if some LINKS are known."""

from itertools import combinations

from sendershade.errors import NoPaper, TooMany, Unfit
from sendershade.forms import as_set, frozen, is_exactly
from sendershade.nets import fraction
from sendershade.shades import all_sources
from sendershade.shares import lying_shares, part_of, pool_size, shares_by
from sendershade.sights import all_outs_in, houses_in, is_out, is_own, ready_for
from sendershade.threads import count_in, product_of, sure_ways
from sendershade.tokens import check_token

MOST_OUTS = 8


def _senders_in(sight):
    """As all_senders; sight is frozen."""
    return as_set([row[0][1] for row in sight if row[0][0] == "person" and not is_own(row)])


def all_senders(sight):
    """The set of the PERSONS from whom a PASSING, not known, is."""
    return _senders_in(frozen(sight))


def _end_tokens(sight):
    """The TOKENS of the ENDS: what no HOUSE took, and none of the rest opened; sight is frozen."""
    opened = [row[4][1] for row in sight if row[4] is not None and row[4][0] == "opened"]
    return [token for token, row in enumerate(sight) if not is_own(row) and row[3] is None and token not in opened]


def _end_houses(sight):
    """The HOUSES of the ENDS; sight is frozen."""
    return [house for house in houses_in(sight) if lying_shares(sight, house)[0] > 0]


def ends(sight):
    """The tuple of the ENDS."""
    sight = frozen(sight)
    tokens = [("token", token) for token in _end_tokens(sight)]
    return tuple(tokens + [("house", house) for house in _end_houses(sight)])


def end_table(sight):
    """The tuple with, for each sender, the parts of all THREADINGS in which its letter is at each of the ENDS."""
    sight = frozen(sight)
    told = shares_by(sight, {})
    columns = [told[token] for token in _end_tokens(sight)]
    columns.extend([lying_shares(sight, house)[1] for house in _end_houses(sight)])
    return tuple([tuple([part_of(column, person) for column in columns]) for person in _senders_in(sight)])


def is_end_table(sight, thing):
    """Whether thing is the end_table of sight."""
    return is_exactly(thing, end_table(sight))


def sure_senders(sight):
    """The set of the pairs (token, person), token of an END, in which person has the whole share."""
    sight = frozen(sight)
    told = shares_by(sight, {})
    return tuple([(token, told[token][0][0]) for token in _end_tokens(sight) if len(told[token]) == 1])


def alike_rows(sight):
    """The tuple, ascending, of the sets of the senders that have one row in end_table."""
    table = end_table(sight)
    people = all_senders(sight)
    return as_set([tuple([other for other, row in zip(people, table) if row == own]) for own in table])


def _check_links(sight, links):
    """Raise NoToken for the first number in links that is no TOKEN, then Unfit if two are of one."""
    for link in links:
        for token in link:
            check_token(token, sight)
    tokens = [token for token, _ in links]
    if len(as_set(tokens)) < len(tokens):
        raise Unfit()


def _links_of_outs(sight, links):
    """The dict of those of links that are of outs; None if no THREADING has links for a single one of them."""
    sure, told = sure_ways(sight), {}
    for token, own in links:
        if is_out(sight[token]):
            if own not in ready_for(sight, token):
                return None
            told[token] = own
        elif sure[token] != own:
            return None
    return told


def _count_with(sight, links):
    """As how_many_with, of links that are some; sight is frozen."""
    told = _links_of_outs(sight, links)
    if told is None or len(as_set(list(told.values()))) < len(told):
        return 0
    return product_of([pool_size(sight, told, token) for token in all_outs_in(sight) if token not in told])


def _shares_with(sight, links):
    """The SHARES of all TOKENS with links that are some; sight is frozen."""
    if _count_with(sight, links) == 0:
        raise NoPaper()
    return shares_by(sight, _links_of_outs(sight, links))


def how_many_with(sight, links):
    """How many THREADINGS have all of links."""
    sight = frozen(sight)
    _check_links(sight, links)
    return _count_with(sight, links)


def shares_with(sight, links, token):
    """The SHARES of token with links."""
    sight = frozen(sight)
    _check_links(sight, links)
    check_token(token, sight)
    return _shares_with(sight, links)[token]


def share_with(sight, links, token, person):
    """The share of person in token with links."""
    return part_of(shares_with(sight, links, token), person)


def _link_share(sight, token, own):
    """As link_share, of two TOKENS; sight is frozen."""
    return fraction(_count_with(sight, ((token, own),)), count_in(sight))


def link_share(sight, token, of):
    """The part of all THREADINGS in which token came of the TOKEN of."""
    sight = frozen(sight)
    check_token(token, sight)
    check_token(of, sight)
    return _link_share(sight, token, of)


def links_of(sight, token):
    """The tuple of the pairs of all that token may come of and of the part of all THREADINGS in which it does."""
    sight = frozen(sight)
    check_token(token, sight)
    return tuple([(own, _link_share(sight, token, own)) for own in all_sources(sight)[token]])


def changed_by(sight, links, token, of):
    """The set of the TOKENS whose SHARES with links and (token, of) are unlike those with links."""
    sight = frozen(sight)
    _check_links(sight, links)
    check_token(token, sight)
    check_token(of, sight)
    if token in [own for own, _ in links]:
        raise Unfit()
    less = _shares_with(sight, links)
    more = _shares_with(sight, list(links) + [(token, of)])
    return tuple([own for own in range(len(sight)) if less[own] != more[own]])


def fewest_links(sight, threading, token):
    """The least set of the LINKS of outs of threading with which one PERSON has the whole share in token."""
    sight = frozen(sight)
    check_token(token, sight)
    links = [(own, threading[own]) for own in all_outs_in(sight)]
    if len(links) > MOST_OUTS:
        raise TooMany()
    for many in range(len(links)):
        for row in combinations(links, many):
            if len(shares_by(sight, dict(row))[token]) == 1:
                return tuple(row)
    return tuple(links)
