"""Nets, routes and fractions: ordinary ones, edges, wrong things, and the guarantees for small nets."""

from fractions import Fraction
from itertools import combinations, product
from unittest import TestCase

from sendershade.errors import NoPaper, Unfit
from sendershade.nets import (all_routes, all_spots, first_steady, fraction, fraction_compared, fraction_less,
                              fraction_sum, fraction_times, hidden_route, is_fraction, is_net, is_rest, is_spot,
                              is_steady, least_route, part_hidden, routes_hidden, safe_routes, shortest_safe,
                              steady_houses, steady_people)
from tests.values import check_described


def some_of(houses):
    """All sets of HOUSES below houses."""
    return [some for many in range(houses + 1) for some in combinations(range(houses), many)]


class TestForms(TestCase):

    def test_nets(self):
        check_described(self, is_net, [(1, 1), (3, 2), (10 ** 9, 1)])
        for wrong in ((0, 1), (1, 0), (-1, 1), (1, -1), (1, 1, 1), (1,), "11", (None, 1)):
            self.assertIs(is_net(wrong), False, wrong)

    def test_rests(self):
        check_described(self, lambda thing: is_rest((4, 3), thing), [((0, 3), (1,)), ((0, 1, 2, 3), (0, 1, 2))])
        for right in (((), ()), ((3,), ()), ((), (2,))):
            self.assertIs(is_rest((4, 3), right), True, right)
        for wrong in (((4,), ()), ((), (3,)), ((1, 0), ()), ((1, 1), ()), ((-1,), ()), ((), (0, 0)), ((),),
                      ((), (), ()), ([], ()), ((), []), (None, ()), ((True,), ()), ((), (False,))):
            self.assertIs(is_rest((4, 3), wrong), False, wrong)

    def test_spots(self):
        check_described(self, lambda thing: is_spot((3, 2), thing),
                        [("person", 0), ("person", 2), ("house", 0), ("house", 1)])
        for wrong in (("person", 3), ("house", 2), ("house", -1), ("Person", 0), ("person",), (0, "person"),
                      ("person", 0, 0), "person", ("person", None), ["house", 0]):
            self.assertIs(is_spot((3, 2), wrong), False, wrong)

    def test_fractions(self):
        for right in ((0, 1), (1, 1), (-1, 2), (7, 3), (-8, 9), (5, 1)):
            self.assertIs(is_fraction(right), True, right)
        for wrong in ((0, 2), (2, 2), (-2, 4), (1, 0), (1, -2), (0, 0), (0, -1), (True, 2), (1, True), (1,),
                      (1, 2, 3), [1, 2], "12", None, 1, (None, 1), (1, None), ("1", 2), ()):
            self.assertIs(is_fraction(wrong), False, wrong)


class TestNets(TestCase):

    def test_spots_of_a_net(self):
        self.assertEqual(all_spots((2, 1)), (("house", 0), ("person", 0), ("person", 1)))
        self.assertEqual(all_spots((11, 1))[-1], ("person", 10))
        self.assertEqual(list(all_spots((3, 4))), sorted(all_spots((3, 4))))

    def test_steady(self):
        rest = ((1,), (0,))
        self.assertEqual([is_steady(rest, spot) for spot in all_spots((2, 2))], [False, True, True, False])
        self.assertEqual((steady_people((2, 2), rest), steady_houses((2, 2), rest)), ((0,), (1,)))
        self.assertEqual((steady_people((1, 1), ((0,), (0,))), steady_houses((1, 1), ((0,), (0,)))), ((), ()))
        self.assertEqual((steady_people((2, 1), ((), ())), steady_houses((2, 1), ((), ()))), ((0, 1), (0,)))

    def test_routes(self):
        self.assertEqual(all_routes((5, 1)), [(0,)])
        self.assertEqual(all_routes((1, 3)), [(0,), (0, 1), (0, 1, 2), (0, 2), (1,), (1, 2), (2,)])
        for houses in range(1, 6):
            self.assertEqual(all_routes((1, houses)), sorted(some_of(houses)[1:]))

    def test_hidden(self):
        self.assertIs(hidden_route(((0, 1), ()), (0, 1)), True)
        self.assertIs(hidden_route(((), (0, 1)), (0, 1)), False)
        self.assertIs(hidden_route(((), (0, 1)), (1, 2)), True)
        self.assertEqual(first_steady(((1,), (0,)), (0, 1, 2)), 1)
        self.assertEqual(first_steady(((), ()), (2,)), 2)
        self.assertIsNone(first_steady(((), (0, 2)), (0, 2)))

    def test_counts_and_parts(self):
        self.assertEqual(routes_hidden((9, 1), ((), ())), (1, 1))
        self.assertEqual(routes_hidden((9, 1), ((), (0,))), (0, 1))
        self.assertEqual(routes_hidden((2, 3), ((0, 1), (0, 2))), (4, 7))
        self.assertEqual([part_hidden((2, 2), many) for many in range(3)], [(1, 1), (2, 3), (0, 1)])
        self.assertEqual(part_hidden((1, 4), 3), (8, 15))
        self.assertEqual([least_route((1, 2), many) for many in range(4)], [1, 2, None, None])

    def test_safe_routes(self):
        self.assertEqual(safe_routes((1, 2), ()), [(0,), (0, 1), (1,)])
        self.assertEqual(safe_routes((1, 2), ((),)), [(0,), (0, 1), (1,)])
        self.assertEqual(safe_routes((1, 3), ((0,), (1,))), [(0, 1), (0, 1, 2), (0, 2), (1, 2), (2,)])
        self.assertEqual(safe_routes((1, 2), ((0,), (0, 1))), [])
        self.assertEqual(shortest_safe((1, 3), ((0,), (1,))), (2,))
        self.assertEqual(shortest_safe((1, 3), ((0,), (1, 2))), (0, 1))
        self.assertRaises(NoPaper, shortest_safe, (1, 1), ((0,),))
        self.assertRaises(NoPaper, shortest_safe, (1, 3), ((0,), (0, 1, 2)))

    def test_guarantees(self):
        for houses, bad in [(houses, bad) for houses in range(1, 5) for bad in some_of(houses)]:
            net, routes = (1, houses), all_routes((1, houses))
            hidden = [route for route in routes if hidden_route(((), bad), route)]
            self.assertEqual(hidden, [route for route in routes if first_steady(((), bad), route) is not None])
            self.assertEqual(hidden, [route for route in routes if set(route) - set(bad)])
            self.assertEqual(routes_hidden(net, ((), bad)), (len(hidden), len(routes)))
            self.assertEqual(Fraction(*part_hidden(net, len(bad))), Fraction(len(hidden), len(routes)))
            self.assertEqual(safe_routes(net, (bad,)), hidden)

    def test_least_length(self):
        for houses, many in product(range(1, 5), range(6)):
            lots = [some for some in some_of(houses) if len(some) == many]
            fit = [size for size in range(1, houses + 1)
                   if all(set(route) - set(lot) for lot in lots for route in combinations(range(houses), size))]
            wanted = min(fit) if fit and many <= houses else None
            self.assertEqual(least_route((1, houses), many), wanted, (houses, many))

    def test_shortest_of_all_lots(self):
        for one, other in product(some_of(3), some_of(3)):
            routes = safe_routes((1, 3), (one, other))
            if len(one) == 3 or len(other) == 3:
                self.assertEqual(routes, [])
                self.assertRaises(NoPaper, shortest_safe, (1, 3), (one, other))
            else:
                least = min(routes, key=lambda route: (len(route), route))
                self.assertEqual(shortest_safe((1, 3), (one, other)), least)


class TestFractions(TestCase):

    def test_fraction(self):
        self.assertEqual([fraction(0, -5), fraction(0, 9), fraction(-6, -8), fraction(7, 1), fraction(-3, 9)],
                         [(0, 1), (0, 1), (3, 4), (7, 1), (-1, 3)])
        self.assertRaises(Unfit, fraction, 3, 0)
        self.assertRaises(Unfit, fraction, 0, 0)
        self.assertEqual(fraction_sum(()), (0, 1))
        self.assertEqual(fraction_sum(((1, 6),)), (1, 6))
        self.assertEqual(fraction_less((0, 1), (1, 3)), (-1, 3))
        self.assertEqual(fraction_times((0, 1), (-1, 3)), (0, 1))

    def test_as_fractions_are(self):
        numbers = [fraction(above, below) for above in range(-4, 5) for below in range(-3, 4) if below != 0]
        for one, other in product(numbers, numbers):
            near, far = Fraction(*one), Fraction(*other)
            self.assertEqual(Fraction(*fraction_sum((one, other, one))), near + far + near)
            self.assertEqual(Fraction(*fraction_less(one, other)), near - far)
            self.assertEqual(Fraction(*fraction_times(one, other)), near * far)
            self.assertEqual(fraction_compared(one, other), (near > far) - (near < far))
            for told in (one, fraction_sum((one, other)), fraction_less(one, other), fraction_times(one, other)):
                self.assertIs(is_fraction(told), True)
