"""Plans that find: whom the rest can leave as possible senders, whatever the RULES are, and when it can leave few."""

from sendershade.alike import looks_alike_from, wishes_along
from sendershade.errors import NoPaper, TooMany
from sendershade.forms import as_set, frozen, is_below, is_number, is_row
from sendershade.nets import steady_houses
from sendershade.plans import is_plan, played_out
from sendershade.runs import Run
from sendershade.threads import product_of, true_ways
from sendershade.tokens import check_token
from sendershade.worlds import is_begun

MOST_ROWS = 2000


def _runs_in(last):
    """A dict with the runs of each steady HOUSE; TooMany() if mates have too many unlike rows of places."""
    ways = true_ways(last)
    runs = {house: Run(last, ways, house) for house in steady_houses(last[0], last[1])}
    # No HOUSE asks what another one let go, so each run of one goes with each run of the others.
    if product_of([run.many() for run in list(runs.values())]) > MOST_ROWS:
        raise TooMany()
    return runs


def _is_hushed(last, token):
    """Whether token is hushed in the WORLD behind a PLAN."""
    (letter, _), spot, _ = last[6][token]
    return letter[0] not in last[1][0] and spot[0] == "house" and spot[1] not in last[1][1]


def _sources_in(last, runs):
    """The list of all that each TOKEN may have come of in some mate; () of COVER 0."""
    links = [link for run in list(runs.values()) for link in run.links()]
    told = []
    for token, source in enumerate(true_ways(last)):
        if _is_hushed(last, token):
            told.append(tuple([own for out, own in links if out == token]))
        else:
            # It came of this one in all mates: it is from a PERSON, known, or opened by the rest.
            told.append(() if source is None else (source,))
    return told


def _people_in(last, rows):
    """The list of the sets of the PERSONS possible for each TOKEN, rows being as _sources_in tells."""
    told = []
    for token, row in enumerate(rows):
        people = [person for source in row for person in told[source]]
        told.append(as_set(people) if row else (last[6][token][1][1],))
    return told


def mate_rows(world, plan):
    """How many unlike rows of places mates have."""
    return product_of([run.many() for run in list(_runs_in(played_out(world, plan)).values())])


def possible(world, plan, token):
    """The set of the PERSONS possible for token."""
    last = played_out(world, plan)
    check_token(token, last[6])
    return _people_in(last, _sources_in(last, _runs_in(last)))[token]


def _links_back(rows, people, token, person):
    """The dict of links by which person sent token, which it may have done."""
    told = {}
    while rows[token]:
        told[token] = [source for source in rows[token] if person in people[source]][0]
        token = told[token]
    return told


def _mate_with(last, runs, links):
    """The mate with runs that have these links, a dict of outs and what they came of."""
    ways, lucks = list(true_ways(last)), [()] * last[0][1]
    for house, run in runs.items():
        # A way goes through each HOUSE once.
        state = run.end_with([link for link in run.links() if links.get(link[0]) == link[1]])
        lucks[house] = run.luck_to(state)
        for token, source in state[1]:
            ways[token] = source
    bins = tuple([((), (), luck) for luck in lucks])
    return last[:3] + (wishes_along(last, tuple(ways)), 0, bins, (), ())


def mate_of(world, plan, token, person):
    """A mate in which person sent the letter of token."""
    last = played_out(world, plan)
    check_token(token, last[6])
    runs = _runs_in(last)
    rows = _sources_in(last, runs)
    people = _people_in(last, rows)
    if person not in people[token]:
        raise NoPaper()
    return _mate_with(last, runs, _links_back(rows, people, token, person))


def is_mate_of(world, plan, token, person, thing):
    """Whether thing is a mate in which person sent the letter of token."""
    plan = frozen(plan)
    last = played_out(world, plan)
    check_token(token, last[6])
    return looks_alike_from(last, plan, token, person, thing)


def least_seen(world, plan):
    """The pair of how few PERSONS are possible for a hushed TOKEN, and of the least such TOKEN."""
    last = played_out(world, plan)
    people = _people_in(last, _sources_in(last, _runs_in(last)))
    pairs = [(len(people[token]), token) for token in range(len(last[6])) if _is_hushed(last, token)]
    if not pairs:
        raise NoPaper()
    return min(pairs)


def traced(view, token):
    """The PERSON whom view tells itself as the sender of token; None if it tells none."""
    rows = view[0]
    check_token(token, rows)
    # What was opened by the rest is as what it came of.
    while rows[token][3] is not None and rows[token][3][0] == "opened":
        token = rows[token][3][1]
    spot, tag = rows[token][0], rows[token][3]
    if spot[0] == "person":
        return spot[1]
    return None if tag is None else tag[1][0]


def weakness(rule, want, bad):
    """The first word that tells why a HOUSE with rule may leave fewer than want PERSONS possible; None without."""
    batch, keep, wait, doubles, marks = rule
    if batch + keep < want + bad:
        return "batch"
    if wait is not None:
        return "wait"
    if not doubles and not marks:
        return "double"
    if not marks and bad > 0:
        return "mark"
    return None


def _found_by(rule, many, bad, letters, comes):
    """The FINDING of the first TOKEN that goes out: many steady PERSONS write, what comes does so from moment 2 on."""
    wishes = tuple([(1, (person, (0,), person, 0)) for person in range(many)]) + (None,) * bad
    rest = (tuple(range(many, many + bad)), ())
    world = ((many + bad, 1), rest, (rule,), wishes, 0, (((), (), ()),), (), ())
    plan = ((letters, ()),) + tuple([((), tokens) for tokens in comes])
    # Without LUCK the first one that lies goes first.
    return (world, plan, len(letters) + many)


def finding(rule, want, bad):
    """A FINDING for rule, want and bad."""
    rule = frozen(rule)
    word, total = weakness(rule, want, bad), rule[0] + rule[1]
    if word is None:
        raise NoPaper()
    if word == "wait":
        # One waits alone.
        return _found_by(rule, 1, bad, (), ((0,),) + ((),) * rule[2])
    if word == "double":
        # One is sent again till all that lie are it.
        return _found_by(rule, 1, bad, (), ((0,) * total,))
    # The rest's letters fill the HOUSE: all of one of its PERSONS, or, if need be, one of each.
    many = 1 if word == "mark" else max(1, total - bad)
    own = total - many
    letters = tuple([(1, (0,), 0, place) if word == "mark" else (many + place, (0,), 0, 0) for place in range(own)])
    return _found_by(rule, many, bad, letters, (tuple(list(range(own, total)) + list(range(own))),))


def is_finding(rule, want, bad, thing):
    """Whether thing is a FINDING for rule, want and bad."""
    rule = frozen(rule)
    if not is_row(thing, 3):
        return False
    world, plan, token = thing
    if not is_begun(world) or not is_number(token) or not is_plan(world, plan):
        return False
    if len(world[1][0]) != bad or any([world[2][house] != rule for house in steady_houses(world[0], world[1])]):
        return False
    last = played_out(world, plan)
    if not is_below(token, len(last[6])) or not _is_hushed(last, token):
        return False
    return len(possible(world, plan, token)) < want
