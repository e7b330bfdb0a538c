"""Nets of persons and houses, routes through them, and parts of a whole as fractions."""

from math import gcd

from sendershade.errors import NoPaper, Unfit
from sendershade.forms import frozen, is_below, is_from, is_number, is_row, is_set_below


def is_net(thing):
    """Whether thing is a NET."""
    return is_row(thing, 2) and is_from(thing[0], 1) and is_from(thing[1], 1)


def is_rest(net, thing):
    """Whether thing is a REST of net."""
    return is_row(thing, 2) and is_set_below(thing[0], net[0]) and is_set_below(thing[1], net[1])


def is_spot(net, thing):
    """Whether thing is a SPOT of net."""
    if not is_row(thing, 2):
        return False
    if thing[0] == "person":
        return is_below(thing[1], net[0])
    return thing[0] == "house" and is_below(thing[1], net[1])


def all_spots(net):
    """All SPOTS of net, ascending."""
    houses = [("house", house) for house in range(net[1])]
    people = [("person", person) for person in range(net[0])]
    return tuple(houses + people)


def is_steady(rest, spot):
    """Whether spot is none of the rest's."""
    word, place = spot
    if word == "person":
        return place not in rest[0]
    return place not in rest[1]


def steady_people(net, rest):
    """The set of the steady PERSONS."""
    return tuple([person for person in range(net[0]) if person not in rest[0]])


def steady_houses(net, rest):
    """The set of the steady HOUSES."""
    return tuple([house for house in range(net[1]) if house not in rest[1]])


def all_routes(net):
    """The list of all routes of net, ascending."""
    routes = []
    for house in range(net[1]):
        longer = [route + (house,) for route in routes]
        routes = routes + longer + [(house,)]
    return sorted(routes)


def _leaves(lot, route):
    """Whether a HOUSE of route is none of lot."""
    return any([house not in lot for house in route])


def hidden_route(rest, route):
    """Whether route is hidden from the rest's HOUSES."""
    return _leaves(rest[1], route)


def first_steady(rest, route):
    """The first steady HOUSE of route; None if there is none."""
    for house in route:
        if house not in rest[1]:
            return house
    return None


def routes_hidden(net, rest):
    """The pair of how many routes are hidden from the rest, and of how many there are."""
    # A set of HOUSES has two to the power of how many it has as parts, () among them.
    return ((1 << net[1]) - (1 << len(rest[1])), (1 << net[1]) - 1)


def part_hidden(net, many):
    """The part of all routes that is hidden from any so many HOUSES."""
    return fraction((1 << net[1]) - (1 << many), (1 << net[1]) - 1)


def least_route(net, many):
    """The least length of which each route is hidden from any so many HOUSES; None if no route has it."""
    if many + 1 > net[1]:
        return None
    return many + 1


def safe_routes(net, lots):
    """The list, ascending, of the routes that are hidden from each of lots."""
    return [route for route in all_routes(net) if all([_leaves(lot, route) for lot in lots])]


def shortest_safe(net, lots):
    """The least, as a set, of the routes that are hidden from each of lots."""
    routes = [(len(route), route) for route in safe_routes(net, lots)]
    if not routes:
        raise NoPaper()
    return min(routes)[1]


def is_fraction(thing):
    """Whether thing is a FRACTION, maybe below 0."""
    if not is_row(thing, 2) or not is_number(thing[0]) or not is_from(thing[1], 1):
        return False
    return gcd(thing[0], thing[1]) == 1


def fraction(above, below):
    """above divided by below, as a FRACTION."""
    if below == 0:
        raise Unfit()
    shared = gcd(above, below)
    if below < 0:
        shared = -shared
    return (above // shared, below // shared)


def fraction_sum(fractions):
    """All of fractions added up."""
    total = (0, 1)
    for above, below in fractions:
        total = fraction(total[0] * below + above * total[1], total[1] * below)
    return total


def fraction_less(one, other):
    """one less other."""
    return fraction(one[0] * other[1] - other[0] * one[1], one[1] * other[1])


def fraction_times(one, other):
    """one times other."""
    return fraction(one[0] * other[0], one[1] * other[1])


def fraction_compared(one, other):
    """-1 if one is the lesser one, 0 if both are one, else 1."""
    less, _ = fraction_less(one, other)
    if less == 0:
        return 0
    return -1 if less < 0 else 1
