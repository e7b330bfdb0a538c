"""CLAIMS of all points, and one judge for all PAPERS: what shows that a CLAIM is so, or that it is not."""

from sendershade.alike import is_alike, looks_alike, threading_of
from sendershade.errors import NoWord, Unfit
from sendershade.finds import finding, is_finding, weakness
from sendershade.forms import as_set, frozen, is_below, is_exactly, is_number
from sendershade.goals import (can_all, goal_cut, goal_threading, goals_of, has_pairs, is_goal_cut, is_goal_threading,
                               is_pairs_bar, pairs_bar, threading_with_all)
from sendershade.least import is_enough, sure_many, weak_houses
from sendershade.nets import fraction_compared
from sendershade.plans import played_out
from sendershade.rounds import clearing, is_clearing, is_round_paper, round_paper, suspects
from sendershade.shades import chain, cut, is_chain, is_cut, shade
from sendershade.shapes import is_claim_shape, is_word, size_of
from sendershade.shares import is_share_paper, share, share_paper
from sendershade.sights import sight_of
from sendershade.swaps import is_swap_row, swap_row
from sendershade.threads import is_threading, true_threading
from sendershade.worlds import is_begun


def _may_so(sight, token, person):
    return person in shade(sight, token)


def _may_paper(known, sight, token, person):
    return chain(sight, token, person) if known else cut(sight, token, person)


def _is_may_paper(known, thing, sight, token, person):
    if not known:
        return is_cut(sight, token, person, thing)
    return is_chain(sight, thing) and thing[-1] == token and sight[thing[0]][0] == ("person", person)


def _goal_so(net, sight, person, goal):
    return goal in goals_of(net, sight, person)


def _goal_paper(known, net, sight, person, goal):
    return goal_threading(sight, person, goal) if known else goal_cut(sight, person, goal)


def _is_goal_paper(known, thing, net, sight, person, goal):
    return is_goal_threading(sight, person, goal, thing) if known else is_goal_cut(sight, person, goal, thing)


def _pairs_so(sight, pairs):
    return can_all(sight, pairs)


def _pairs_paper(known, sight, pairs):
    return threading_with_all(sight, pairs) if known else pairs_bar(sight, pairs)


def _is_pairs_paper(known, thing, sight, pairs):
    if not known:
        return is_pairs_bar(sight, pairs, thing)
    return is_threading(sight, thing) and has_pairs(thing, pairs)


def _share_so(sight, token, person, part):
    return fraction_compared(share(sight, token, person), part) >= 0


def _share_paper(known, sight, token, person, part):
    # The same one shows that it is so, and that it is not.
    return share_paper(sight, token)


def _is_share_paper(known, thing, sight, token, person, part):
    return is_share_paper(sight, token, thing)


def _alike_so(world, plan, other):
    known = is_alike(world, plan, other)
    if not is_begun(other) or other[:3] != world[:3]:
        raise Unfit()
    return known


def _parts(world, plan, other, many):
    """Whether so many first CHOICES of plan do not suit other, or lead it to another VIEW than world."""
    begun = plan[:many]
    return not looks_alike(played_out(world, begun), begun, other)


def _alike_paper(known, world, plan, other):
    if not known:
        return [many for many in range(len(plan) + 1) if _parts(world, plan, other, many)][0]
    last = played_out(world, plan)
    return swap_row(sight_of(last), true_threading(last), threading_of(world, plan, other))


def _is_alike_paper(known, thing, world, plan, other):
    if not known:
        return is_below(thing, len(plan) + 1) and _parts(world, plan, other, thing)
    last = played_out(world, plan)
    return is_swap_row(sight_of(last), true_threading(last), threading_of(world, plan, other), thing)


def _weak_so(rule, want, bad):
    return weakness(rule, want, bad) is not None


def _weak_paper(known, rule, want, bad):
    return finding(rule, want, bad) if known else rule[0] + rule[1] - bad


def _is_weak_paper(known, thing, rule, want, bad):
    return is_finding(rule, want, bad, thing) if known else is_exactly(thing, rule[0] + rule[1] - bad)


def _enough_so(want, rest, rules):
    return is_enough(want, rest, rules)


def _enough_paper(known, want, rest, rules):
    if not known:
        return weak_houses(want, rest, rules)[0]
    return tuple([sure_many(rule, rest) for house, rule in enumerate(rules) if house not in rest[1]])


def _is_enough_paper(known, thing, want, rest, rules):
    if not known:
        return is_number(thing) and thing in weak_houses(want, rest, rules)
    return is_exactly(thing, _enough_paper(known, want, rest, rules))


def _suspect_so(net, sights, person, friend):
    return friend in suspects(net, sights, person)


def _suspect_paper(known, net, sights, person, friend):
    return round_paper(net, sights, person, friend) if known else clearing(net, sights, person, friend)


def _is_suspect_paper(known, thing, net, sights, person, friend):
    if known:
        return is_round_paper(net, sights, person, friend, thing)
    return is_clearing(net, sights, person, friend, thing)


ARE_SO = {"may": _may_so, "goal": _goal_so, "pairs": _pairs_so, "share": _share_so, "alike": _alike_so,
          "weak": _weak_so, "enough": _enough_so, "suspect": _suspect_so}
PAPERS = {"may": _may_paper, "goal": _goal_paper, "pairs": _pairs_paper, "share": _share_paper, "alike": _alike_paper,
          "weak": _weak_paper, "enough": _enough_paper, "suspect": _suspect_paper}
ARE_PAPERS = {"may": _is_may_paper, "goal": _is_goal_paper, "pairs": _is_pairs_paper, "share": _is_share_paper,
              "alike": _is_alike_paper, "weak": _is_weak_paper, "enough": _is_enough_paper,
              "suspect": _is_suspect_paper}


def is_claim(thing):
    """Whether thing is a CLAIM as far as shapes go."""
    return is_claim_shape(thing)


def _whole(claim):
    """claim, made of tuples; NoWord if it begins with none of the words, Unfit() if it has not as many things."""
    claim = frozen(claim)
    if claim != () and not is_word(claim[0]):
        raise NoWord(claim[0])
    if claim == () or len(claim) != size_of(claim[0]):
        raise Unfit()
    return claim


def is_so(claim):
    """Whether claim is so."""
    word, *parts = _whole(claim)
    action = ARE_SO[word]
    return action(*parts)


def paper(claim):
    """A PAPER that claim is so, or that it is not, whichever is the case."""
    known = is_so(claim)
    word, *parts = _whole(claim)
    action = PAPERS[word]
    return action(known, *parts)


def is_paper(claim, thing):
    """Whether thing is a PAPER of claim."""
    return shows(claim, thing) is not None


def shows(claim, thing):
    """True if thing is a PAPER of claim and this is so, False if it is one and this is not, None if it is none."""
    known = is_so(claim)
    word, *parts = _whole(claim)
    action = ARE_PAPERS[word]
    return known if action(known, thing, *parts) else None


def not_so(claims):
    """The set of the numbers of those of claims that are not so."""
    return tuple([number for number, claim in enumerate(claims) if not is_so(claim)])


def words_so(claims):
    """The set of the words of which there are CLAIMS among claims, all of which are so."""
    # Each is asked before its word is looked at, as it may have none.
    known = [(is_so(claim), claim[0]) for claim in claims]
    return as_set([word for _, word in known if (False, word) not in known])
