"""Runs of one steady HOUSE: all that may have gone out of it, whatever its RULE is. Private: for finds.py.

Which TOKENS a HOUSE takes, and when, is the same in all WORLDS with one VIEW by one PLAN: two TOKENS that are not known
are of two PERSONS, as each of these sends one letter. So no HOUSE asks what went out of another one, and each has its
runs by itself. A STATE of a run is a pair (lying, links): what lies behind a moment, in its order, and, as pairs (out,
in), what has come of what, both not known.
"""

from itertools import permutations
from math import comb, factorial

from sendershade.bins import must_go
from sendershade.forms import as_set
from sendershade.threads import product_of


def _merges(fresh, again):
    """In how many ways the TOKENS that come again fall among fresh ones, none of those ahead of itself."""
    rows = [1] * (len(again) + 1)
    for place in range(len(fresh) + 1):
        for spot in range(len(again) + 1):
            ahead = rows[spot] if place > 0 else int(spot == 0)
            if spot > 0 and again[spot - 1] not in fresh[place:]:
                ahead += rows[spot - 1]
            rows[spot] = ahead
    return rows[-1]


def _first_kept(lying, left):
    """The pair of in how many ways as many of each TOKEN as left tells stay, and of the first such places."""
    places, stayed = [], {}
    for place, token in enumerate(lying):
        stayed[token] = stayed.get(token, 0) + 1
        if stayed[token] <= left[token]:
            places.append(place)
    return (product_of([comb(stayed[token], left[token]) for token in stayed]), tuple(places))


def _rows_kept(lying, left):
    """A dict with, for each row in which as many of each TOKEN as left tells may stay, a pair as in _first_kept."""
    rows = {(): (1, ())}
    for place, token in enumerate(lying):
        behind, longer = lying[place + 1:].count(token), {}
        for row, (ways, places) in rows.items():
            wanted = left[token] - row.count(token)
            if wanted > 0:
                _add_way(longer, row + (token,), ways, places + (place,))
            if wanted <= behind:
                _add_way(longer, row, ways, places)
        rows = longer
    return rows


def _add_way(told, key, ways, way):
    """Put ways more to what told has at key; of several ways there the first one is told."""
    if key in told:
        told[key] = (told[key][0] + ways, told[key][1])
    else:
        told[key] = (ways, way)


class Run:
    """All runs of one steady HOUSE with the VIEW of a WORLD behind a PLAN."""

    def __init__(self, world, ways, house):
        rest, rows, spot = world[1], world[6], ("house", house)
        outs = [token for token, row in enumerate(rows) if row[1] == spot]
        self.rule = world[2][house]
        self.taken = world[5][house][1]
        self.hidden = [token for token in range(len(rows)) if rows[token][0][0][0] not in rest[0]]
        self.outs = [(rows[token][2], token) for token in outs]
        self.again = [(moment, token) for moment, token in world[7] if token in outs]
        # What is known to come of what: the same in all WORLDS with this VIEW.
        self.known = {token: ways[token] for token in outs if token not in self.hidden}
        self.layers = [{((), ()): (1, None)}]
        for moment in range(1, world[4] + 1):
            self.layers.append(self._layer(moment))

    def _layer(self, moment):
        """A dict with, for each STATE behind moment, how many runs lead there, and the end of one of these.

        The end is a pair: the STATE ahead, and the places of what then was, or came, and stayed.
        """
        told = {}
        for state, (ways, _) in self.layers[-1].items():
            for later, more, places in self._steps(state, moment):
                _add_way(told, later, ways * more, (state, places))
        return told

    def _came(self, moment):
        return tuple([token for token, then in self.taken if then == moment])

    def _fresh(self, moment):
        return [token for sent, token in self.outs if sent == moment]

    def _again(self, moment):
        return [token for then, token in self.again if then == moment]

    def _steps(self, state, moment):
        """Triples of each STATE to which a moment leads, of how many ways lead there, of the places of what stays."""
        lying, fresh, again = state[0] + self._came(moment), self._fresh(moment), self._again(moment)
        taken = tuple([pair for pair in self.taken if pair[1] <= moment])
        if must_go(self.rule, (lying, taken, ()), moment) != len(fresh) + len(again):
            return []
        told = []
        for links in self._links_on(lying, state[1], fresh):
            went = self._went(links, fresh + again)
            left = {token: lying.count(token) - went.count(token) for token in lying}
            # What went lay there, and so often.
            if all([token in left and left[token] >= 0 for token in went]):
                ways = _merges(fresh, again) * product_of([factorial(went.count(token)) for token in left])
                told.extend([((row, links), ways * more, places) for row, more, places in self._stays(lying, left)])
        return told

    def _links_on(self, lying, links, fresh):
        """The list of links with some for the fresh ones, not known, behind them."""
        used = [source for _, source in links]
        free = [token for token in as_set(lying) if token in self.hidden and token not in used]
        outs = [token for token in fresh if token in self.hidden]
        return [links + tuple(list(zip(outs, row))) for row in permutations(free, len(outs))]

    def _went(self, links, outs):
        """What outs came of, one by one."""
        sources = dict(links)
        return [sources[token] if token in sources else self.known[token] for token in outs]

    def _stays(self, lying, left):
        """Triples of what may lie then, of in how many ways, of the places of one of these."""
        if self.rule[2] is None:
            # Without wait it is the same in what order they lie: one way stands for all.
            ways, places = _first_kept(lying, left)
            return [(tuple([lying[place] for place in places]), ways, places)]
        return [(row, ways, places) for row, (ways, places) in _rows_kept(lying, left).items()]

    def many(self):
        """How many runs there are."""
        return sum([ways for ways, _ in self.layers[-1].values()])

    def links(self):
        """The set of the pairs (out, in), not known, that some run has."""
        return as_set([link for _, links in self.layers[-1] for link in links])

    def end_with(self, wanted):
        """The last STATE of a run that has all of wanted, at most one of links."""
        for state in self.layers[-1]:
            if all([link in state[1] for link in wanted]):
                return state
        return None

    def luck_to(self, state):
        """LUCK of a run that ends with this STATE: the places from which it lets go."""
        luck = []
        for moment in range(len(self.layers) - 1, 0, -1):
            ahead, places = self.layers[moment][state][1]
            went = self._went(state[1], self._fresh(moment) + self._again(moment))
            luck = self._places(ahead[0] + self._came(moment), places, went) + luck
            state = ahead
        return tuple(luck)

    def _places(self, lying, places, went):
        """The places from which went goes, one by one, such that what lies at places stays."""
        left, told = list(range(len(lying))), []
        for token in went:
            place = [spot for spot in left if lying[spot] == token and spot not in places][0]
            told.append(left.index(place))
            left.remove(place)
        return told
