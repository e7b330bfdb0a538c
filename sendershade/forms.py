"""Plain forms of values: numbers, tuples, sets. Private: all other files may draw from it."""

# No described value is nested so deep; what is deeper is left as it is, and is unfit anyway.
DEEPEST = 20


def frozen(value, levels=DEEPEST):
    """A copy of value in which each list is a tuple."""
    if levels > 0 and isinstance(value, (list, tuple)):
        # What is no list and no tuple, as most of it, is not asked again: nearly every call begins here.
        return tuple([frozen(part, levels - 1) if isinstance(part, (list, tuple)) else part for part in value])
    return value


def is_number(thing):
    """Whether thing is a number: True and False are none."""
    return isinstance(thing, int) and not isinstance(thing, bool)


def is_from(thing, low):
    """Whether thing is a number, and at least low."""
    return is_number(thing) and thing >= low


def is_below(thing, top):
    """Whether thing is a number from 0 below top."""
    return is_number(thing) and 0 <= thing < top


def is_row(thing, many):
    """Whether thing is a tuple of so many things."""
    return isinstance(thing, tuple) and len(thing) == many


def is_set_below(thing, top):
    """Whether thing is a set of numbers from 0 below top."""
    if not isinstance(thing, tuple):
        return False
    if not all([is_below(part, top) for part in thing]):
        return False
    return all([thing[place] < thing[place + 1] for place in range(len(thing) - 1)])


def as_set(things):
    """The set of these things."""
    return tuple(sorted(set(things)))


def never_falls(numbers):
    """Whether no number of a list is below the one ahead of it."""
    return all([numbers[place] <= numbers[place + 1] for place in range(len(numbers) - 1)])


def is_exactly(thing, value):
    """Whether thing is value to the sign: True is not 1, a list is no tuple."""
    if isinstance(value, tuple):
        return is_row(thing, len(value)) and all([is_exactly(part, own) for part, own in zip(thing, value)])
    if isinstance(value, bool) or isinstance(thing, bool):
        return isinstance(value, bool) and isinstance(thing, bool) and thing == value
    return thing == value
