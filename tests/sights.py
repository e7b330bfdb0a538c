"""SIGHTS that several tests ask of."""

ZERO, ONE, TWO, THREE = [("person", own) for own in range(4)]
HOME, AFTER = ("house", 0), ("house", 1)

# Two come ahead of the first out, a third one ahead of the second.
POOL = ((ZERO, HOME, 1, 2, None), (ONE, HOME, 1, 2, None), (TWO, HOME, 2, 3, None), (HOME, THREE, 2, None, None),
        (HOME, THREE, 3, None, None))
# HOUSE 0 is empty as the second one comes.
LONE = POOL[1:]
# What goes out of HOUSE 0 goes to HOUSE 1.
TWICE = POOL[:2] + ((HOME, AFTER, 2, 3, None), (HOME, AFTER, 2, 3, None), (AFTER, THREE, 3, None, None))
# One of the rest, PERSON 2, and HOUSE 1: a letter of its own, and one that it opens.
NOTE = (2, (0,), 1, 9)
MIXED_REST = ((3, 2), ((2,), (1,)))
MIXED = ((TWO, HOME, 1, 2, ("own", NOTE, 0)), (ZERO, HOME, 1, 2, None), (ONE, HOME, 1, 2, None),
         (HOME, ZERO, 2, None, None), (HOME, ONE, 2, None, ("own", NOTE, 1)), (HOME, AFTER, 2, None, None),
         (AFTER, TWO, 2, None, ("opened", 5)))
# A THREADING of it.
MIXED_TRUE = (None, None, None, 2, 0, 1, 5)


def crowd(people, many, houses=1):
    """people come to HOUSE 0 at once, and go out again as they are, to the next HOUSE, many out of the last one."""
    rows = [(("person", own), HOME, 1, 2, None) for own in range(people)]
    for house in range(houses):
        last = house + 1 == houses
        goal, came = (ZERO, None) if last else (("house", house + 1), house + 3)
        rows.extend([(("house", house), goal, house + 2, came, None)] * (many if last else people))
    return tuple(rows)


def just_5000():
    """A SIGHT with 5 * 5 * 5 * 5 * 2 * 2 * 2 THREADINGS: five, then two lie at each out."""
    rows = [(("person", own), HOME, 1, max(2, own - 2), None) for own in range(8)]
    rows += [(HOME, AFTER, moment, max(4, moment + 1), None) for moment in (2, 3, 4, 5)]
    rows += [(AFTER, ZERO, moment, None, None) for moment in (4, 5, 6)]
    return tuple(sorted(rows, key=lambda row: row[2]))
