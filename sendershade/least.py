"""How many are enough: what batch and keep are sure to leave, and what a SIGHT tells of it."""

from sendershade.bins import is_careful
from sendershade.errors import Unfit
from sendershade.forms import as_set, frozen, is_exactly
from sendershade.nets import fraction_compared
from sendershade.shades import shades
from sendershade.shares import share_table
from sendershade.sights import is_in, is_out
from sendershade.tokens import check_token


def _check_careful(rule):
    if not is_careful(rule):
        raise Unfit()


def sure_many(rule, rest):
    """How many senders are sure behind a HOUSE with this careful RULE."""
    _check_careful(rule)
    return max(1, rule[0] + rule[1] - len(rest[0]))


def _least_sum(want, rest):
    """The least batch + keep of a careful RULE for which sure_many is at least want."""
    # One is sure in any case.
    return 1 if want == 1 else want + len(rest[0])


def least_batch(want, rest, keep):
    """The least batch of a careful RULE with this keep for which sure_many is at least want."""
    return max(1, _least_sum(want, rest) - keep)


def least_keep(want, rest, batch):
    """The least keep of a careful RULE with this batch for which sure_many is at least want."""
    return max(0, _least_sum(want, rest) - batch)


def least_rules(want, rest):
    """The set of the careful RULES that are enough for want, neither batch nor keep of which can be one less."""
    total = _least_sum(want, rest)
    return tuple([(batch, total - batch, None, True, True) for batch in range(1, total + 1)])


def weak_houses(want, rest, rules):
    """The set of the steady HOUSES whose RULE is not careful, or has sure_many below want."""
    steady = [house for house in range(len(rules)) if house not in rest[1]]
    return tuple([house for house in steady if not is_careful(rules[house]) or sure_many(rules[house], rest) < want])


def is_enough(want, rest, rules):
    """Whether no HOUSE is weak."""
    return weak_houses(want, rest, rules) == ()


def left_least(rule, many):
    """How many a HOUSE with this careful RULE has let go at the least, if it has taken so many."""
    _check_careful(rule)
    batch, keep = rule[:2]
    if many < batch + keep:
        return 0
    # Fewer than batch + keep lie behind a moment; but as many as these lay once, and batch at least went then.
    return max(batch, many - batch - keep + 1)


def left_most(rule, many):
    """How many a HOUSE with this careful RULE has let go at the most, if it has taken so many."""
    _check_careful(rule)
    batch, keep = rule[:2]
    return 0 if many < batch + keep else many - keep


def _lay(came, gone, moment):
    """How many of came lay at moment ahead of the first that went then."""
    return len([row for row in came if row[3] <= moment]) - len([row for row in gone if row[2] < moment])


def _counts(sight, house):
    """As counts_of; sight is frozen."""
    spot, told = ("house", house), []
    came = [row for row in sight if row[1] == spot and row[3] is not None]
    # Something came to each steady HOUSE from which something went, and to none of the rest's.
    gone = [row for row in sight if row[0] == spot and came]
    ins, outs = [row for row in came if is_in(row)], [row for row in gone if is_out(row)]
    for moment in as_set([row[2] for row in gone]):
        told.append((moment, _lay(came, gone, moment), _lay(ins, outs, moment)))
    return tuple(told)


def counts_of(sight, house):
    """COUNTS of house: how many lay there, and how many of them not known, at each moment at which some went."""
    return _counts(frozen(sight), house)


def is_counts(sight, house, thing):
    """Whether thing is COUNTS of house."""
    return is_exactly(thing, counts_of(sight, house))


def _bounds(sight):
    """The list of bound_at of all TOKENS; sight is frozen."""
    told = []
    for spot, _, sent, _, tag in sight:
        if tag is not None and tag[0] == "opened":
            told.append(told[tag[1]])
        elif tag is None and spot[0] == "house":
            told.append([lay for moment, _, lay in _counts(sight, spot[1]) if moment == sent][0])
        else:
            told.append(1)
    return told


def bound_at(sight, token):
    """How many PERSONS at least are in the SHADE of token, as far as COUNTS tell."""
    sight = frozen(sight)
    check_token(token, sight)
    return _bounds(sight)[token]


def share_bound(sight, token):
    """The FRACTION that no share in token is above, as far as COUNTS tell."""
    return (1, bound_at(sight, token))


def _behind(sight):
    """As behind; sight is frozen."""
    told = []
    for token, row in enumerate(sight):
        if is_out(row) or (row[4] is not None and row[4][0] == "opened" and row[4][1] in told):
            told.append(token)
    return tuple(told)


def behind(sight):
    """The set of the TOKENS behind a steady HOUSE."""
    return _behind(frozen(sight))


def least_bound(sight):
    """The least bound_at of the TOKENS behind a steady HOUSE; None if there is none."""
    sight = frozen(sight)
    bounds = _bounds(sight)
    return min([bounds[token] for token in _behind(sight)], default=None)


def thin_ones(sight, want):
    """The set of the TOKENS behind a steady HOUSE with fewer than want PERSONS in their SHADE."""
    told = shades(sight)
    return tuple([token for token in behind(sight) if len(told[token]) < want])


def heavy_ones(sight, want):
    """The set of the TOKENS behind a steady HOUSE with a share above 1 divided by want."""
    told = share_table(sight)
    return tuple([token for token in behind(sight)
                  if any([fraction_compared(part, (1, want)) > 0 for _, part in told[token]])])
