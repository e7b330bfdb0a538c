"""Shapes of CLAIMS, as far as they can be told part by part. Private: for judge.py."""

from sendershade.bins import is_rule
from sendershade.forms import is_from, is_row
from sendershade.nets import fraction_compared, is_fraction, is_net
from sendershade.worlds import is_begun

# What stands behind each word, in order, by the names of CHECKS.
PARTS = {
    "may": ("sight", "from 0", "from 0"),
    "goal": ("net", "sight", "from 0", "from 0"),
    "pairs": ("sight", "pairs"),
    "share": ("sight", "from 0", "from 0", "part"),
    "alike": ("world", "plan", "world"),
    "weak": ("rule", "from 2", "from 0"),
    "enough": ("from 1", "rest", "rules"),
    "suspect": ("net", "sights", "from 0", "from 0"),
}


def _is_tuple_of(thing, described):
    """Whether thing is a tuple of things of each of which described is True."""
    return isinstance(thing, tuple) and all([described(part) for part in thing])


def _is_from_0(thing):
    return is_from(thing, 0)


def _is_from_1(thing):
    return is_from(thing, 1)


def _is_from_2(thing):
    return is_from(thing, 2)


def _is_set(thing):
    """Whether thing is a set of numbers from 0."""
    if not _is_tuple_of(thing, _is_from_0):
        return False
    return all([thing[place] < thing[place + 1] for place in range(len(thing) - 1)])


def _is_letter_shape(thing):
    """Whether thing is a LETTER, whatever its NET has."""
    if not is_row(thing, 4) or not _is_set(thing[1]) or thing[1] == ():
        return False
    return is_from(thing[0], 0) and is_from(thing[2], 0) and is_from(thing[3], 0)


def _is_spot_shape(thing):
    return is_row(thing, 2) and (thing[0] == "person" or thing[0] == "house") and is_from(thing[1], 0)


def _is_tag_shape(thing):
    if is_row(thing, 2):
        return thing[0] == "opened" and is_from(thing[1], 0)
    if not is_row(thing, 3) or thing[0] != "own" or not _is_letter_shape(thing[1]):
        return False
    return is_from(thing[2], 0) and thing[2] <= len(thing[1][1])


def _is_passing_shape(thing):
    if not is_row(thing, 5) or not _is_spot_shape(thing[0]) or not _is_spot_shape(thing[1]):
        return False
    _, _, sent, came, tag = thing
    return is_from(sent, 1) and (came is None or is_from(came, 1)) and (tag is None or _is_tag_shape(tag))


def _is_sight_shape(thing):
    return _is_tuple_of(thing, _is_passing_shape)


def _are_sight_shapes(thing):
    return _is_tuple_of(thing, _is_sight_shape)


def _is_choice_shape(thing):
    return is_row(thing, 2) and _is_tuple_of(thing[0], _is_letter_shape) and _is_tuple_of(thing[1], _is_from_0)


def _is_plan_shape(thing):
    return _is_tuple_of(thing, _is_choice_shape)


def _is_rest_shape(thing):
    return is_row(thing, 2) and _is_set(thing[0]) and _is_set(thing[1])


def _is_pair_shape(thing):
    return is_row(thing, 2) and is_from(thing[0], 0) and (thing[1] is None or is_from(thing[1], 0))


def _are_pair_shapes(thing):
    return _is_tuple_of(thing, _is_pair_shape)


def _is_net(thing):
    return is_net(thing)


def _is_world(thing):
    return is_begun(thing)


def _is_rule(thing):
    return is_rule(thing)


def _are_rules(thing):
    return _is_tuple_of(thing, is_rule) and thing != ()


def _is_part(thing):
    """Whether thing is a FRACTION from 0 to 1."""
    return is_fraction(thing) and thing[0] >= 0 and fraction_compared(thing, (1, 1)) <= 0


CHECKS = {"from 0": _is_from_0, "from 1": _is_from_1, "from 2": _is_from_2, "net": _is_net, "rest": _is_rest_shape,
          "rule": _is_rule, "rules": _are_rules, "world": _is_world, "plan": _is_plan_shape, "sight": _is_sight_shape,
          "sights": _are_sight_shapes, "pairs": _are_pair_shapes, "part": _is_part}


def is_word(thing):
    """Whether thing is the word of some CLAIMS."""
    return isinstance(thing, str) and thing in PARTS


def size_of(word):
    """How many things a CLAIM with this word has, the word too."""
    return len(PARTS[word]) + 1


def _has_shape(name, thing):
    check = CHECKS[name]
    return check(thing)


def is_claim_shape(thing):
    """Whether thing is a CLAIM as far as shapes go."""
    if not isinstance(thing, tuple) or thing == () or not is_word(thing[0]) or len(thing) != size_of(thing[0]):
        return False
    return all([_has_shape(name, part) for name, part in zip(PARTS[thing[0]], thing[1:])])
