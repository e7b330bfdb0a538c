"""SWAPS: what lies together, SWAP ROWS beside a search through all of them, neighbours and HEAPS; edges and errors."""

from math import prod
from unittest import TestCase

from sendershade.errors import NoToken, Unfit
from sendershade.sights import all_outs, ins_of, lies_ahead
from sendershade.swaps import (always_together, ever_together, first_swaps, heap_of, heap_outs, heap_ways, heaps,
                               is_swap_row, lie_together, steps_apart, swap_row, swapped, swapped_by, swaps_of,
                               unlike_outs)
from sendershade.threads import all_threadings, how_many, is_threading, threading_at
from tests import plain
from tests.scenes import some_sights
from tests.sights import LONE, MIXED, POOL, TWICE, crowd
from tests.values import broken, listed

ONE, OTHER = (None, None, None, 0, 1), (None, None, None, 1, 2)


class TestTogether(TestCase):

    def test_pool(self):
        self.assertEqual([(near, far) for near in range(5) for far in range(5) if lie_together(POOL, ONE, near, far)],
                         [(0, 1), (1, 0), (1, 2), (2, 1)])
        self.assertEqual([swaps_of(POOL, own) for own in (ONE, OTHER)], [((0, 1), (1, 2)), ((0, 1), (0, 2))])
        self.assertEqual(swaps_of(LONE, (None, None, 0, 1)), ())

    def test_nothing_comes_of_both(self):
        sight, threading = POOL[:3], (None, None, None)
        self.assertIs(lie_together(sight, threading, 0, 2), True)
        self.assertEqual((swaps_of(sight, threading), ever_together(sight)), ((), ((0, 1), (0, 2), (1, 2))))
        self.assertRaises(Unfit, swapped, sight, threading, (0, 2))

    def test_known_ones_do_not(self):
        threading = (None, None, None, 1, 0, 2, 5)
        self.assertEqual(swaps_of(MIXED, threading), ((1, 2),))
        for token in (0, 3, 4, 5, 6):
            for mate in range(7):
                self.assertIs(lie_together(MIXED, threading, token, mate), False)
                self.assertIs(lie_together(MIXED, threading, mate, token), False)

    def test_the_same_moment(self):
        # What goes at the moment at which the other one comes lies together with it.
        sight = ((("person", 0), ("house", 0), 1, 2, None), (("person", 1), ("house", 0), 1, 3, None),
                 (("house", 0), ("person", 2), 3, None, None))
        self.assertIs(lie_together(sight, (None, None, 0), 0, 1), True)
        self.assertEqual(swaps_of(sight, (None, None, 0)), ((0, 1),))
        self.assertEqual(always_together(sight), ((0, 1),))

    def test_no_token(self):
        for token, mate, wrong in ((-1, 0, -1), (0, 5, 5), (9, -9, 9), (5, 5, 5), (1, -1, -1)):
            with self.assertRaises(NoToken) as caught:
                lie_together(POOL, ONE, token, mate)
            self.assertEqual(caught.exception.token, wrong)

    def test_empty(self):
        self.assertEqual([call(()) for call in (ever_together, always_together, heaps)], [()] * 3)
        self.assertEqual((swaps_of((), ()), swapped_by((), (), ()), unlike_outs((), ())), ((), (), ()))
        self.assertEqual((steps_apart((), (), ()), swap_row((), (), ()), first_swaps((), (), ())), (0, (), ()))
        self.assertIs(is_swap_row((), (), (), ()), True)
        self.assertRaises(NoToken, heap_of, (), 0)
        for call in (heap_outs, heap_ways):
            self.assertRaises(Unfit, call, (), ())
            self.assertRaises(Unfit, call, (), (0,))


class TestRows(TestCase):

    def test_swapped(self):
        self.assertEqual([swapped(POOL, ONE, swap) for swap in ((0, 1), (1, 2))],
                         [(None, None, None, 1, 0), (None, None, None, 0, 2)])
        self.assertEqual([swapped_by(POOL, ONE, row) for row in ((), ((0, 1),), ((0, 1), (0, 2)), ((1, 2), (1, 2)))],
                         [ONE, (None, None, None, 1, 0), OTHER, ONE])
        for swap in ((0, 2), (1, 0), (0, 0), (0, 3), (3, 4), (-5, 1), (0, -4), (0, 99), (99, 100), (-1, -1), ()):
            self.assertRaises(Unfit, swapped, POOL, ONE, swap)
            self.assertRaises(Unfit, swapped_by, POOL, ONE, ((0, 1), (0, 1), swap))
        self.assertRaises(Unfit, swapped_by, POOL, ONE, ((0, 1), (1, 2)))

    def test_equal_ones(self):
        self.assertEqual((unlike_outs(ONE, ONE), steps_apart(POOL, ONE, ONE), swap_row(POOL, ONE, ONE)), ((), 0, ()))
        self.assertEqual(first_swaps(POOL, ONE, ONE), ())
        for thing, known in (((), True), (((0, 1), (0, 1)), True), (((0, 1),), False), (((0, 2),), False)):
            self.assertIs(is_swap_row(POOL, ONE, ONE, thing), known)

    def test_rings(self):
        # A ring of two, a ring of three, and a way that ends at one that lies.
        sight = crowd(6, 5)
        one = (None,) * 6 + (0, 1, 2, 3, 4)
        for outs, steps in (((1, 0, 2, 3, 4), 1), ((1, 2, 0, 3, 4), 2), ((1, 0, 3, 2, 4), 2), ((5, 1, 2, 3, 4), 1),
                            ((1, 5, 2, 3, 4), 2), ((1, 5, 3, 2, 4), 3), ((1, 2, 3, 4, 0), 4), ((1, 2, 3, 4, 5), 5)):
            other = (None,) * 6 + outs
            self.assertEqual(unlike_outs(one, other), tuple(6 + place for place in range(5) if outs[place] != place))
            self.assertEqual(steps_apart(sight, one, other), steps)
            row = swap_row(sight, one, other)
            self.assertEqual(len(row), steps)
            self.assertIs(is_swap_row(sight, one, other, row), True)

    def test_is_swap_row(self):
        row = ((0, 1), (0, 2))
        self.assertIs(is_swap_row(POOL, ONE, OTHER, row), True)
        for thing in broken(row):
            self.assertIs(is_swap_row(POOL, ONE, OTHER, thing), False, thing)
        for thing in (None, (), [], True, "", 7, listed(row), (row,), ((0, 1), (2, 0)), ((0, 1), (False, 2)),
                      ((0, 1), (0, 2), (0, 2)), ((0, 1), (0, 2), None), ((0, 9), (0, 2)), ((0, 1), (0, -3))):
            self.assertIs(is_swap_row(POOL, ONE, OTHER, thing), False, thing)
        self.assertIs(is_swap_row(POOL, ONE, OTHER, row + ((0, 1), (0, 1))), True)
        self.assertIs(is_swap_row(POOL, ONE, OTHER, ((1, 2), (0, 1))), True)

    def test_far_too_many(self):
        sight = crowd(8, 7, 5)
        many = how_many(sight)
        for near, far in ((0, many - 1), (many // 7, many // 3), (12345678901, 98765432109876)):
            one, other = threading_at(sight, near), threading_at(sight, far)
            row = swap_row(sight, one, other)
            self.assertEqual(len(row), steps_apart(sight, one, other))
            self.assertIs(is_swap_row(sight, one, other, row), True)
            self.assertEqual(swapped_by(sight, one, row), other)
            self.assertIs(is_swap_row(sight, one, other, row[1:]), False)
            self.assertIn(row[0], first_swaps(sight, one, other))
            self.assertEqual(swap_row(sight, one, other), row)


class TestHeaps(TestCase):

    def test_heaps(self):
        self.assertEqual((heaps(POOL), heaps(LONE), heaps(TWICE)), (((0, 1, 2),), ((0,), (1,)), ((0, 1), (2, 3))))
        self.assertEqual([heap_of(POOL, token) for token in (0, 1, 2)], [(0, 1, 2)] * 3)
        self.assertEqual([heap_of(LONE, token) for token in (0, 1)], [(0,), (1,)])
        self.assertEqual((heap_outs(POOL, (0, 1, 2)), heap_ways(POOL, (0, 1, 2))), ((3, 4), 4))
        self.assertEqual([heap_outs(LONE, heap) for heap in heaps(LONE)], [(2,), (3,)])
        self.assertEqual([heap_ways(TWICE, heap) for heap in heaps(TWICE)], [2, 2])
        self.assertEqual((ever_together(POOL), always_together(POOL)), (((0, 1), (0, 2), (1, 2)), ((0, 1),)))
        self.assertEqual((heap_outs(POOL[:3], (0, 1, 2)), heap_ways(POOL[:3], (0, 1, 2))), ((), 1))

    def test_none(self):
        for heap in ((), (0,), (0, 1), (0, 2), (1, 0, 2), (0, 1, 2, 3), (3, 4), (-1,), (99,)):
            for call in (heap_outs, heap_ways):
                self.assertRaises(Unfit, call, POOL, heap)
        for token in (3, 4):
            self.assertRaises(Unfit, heap_of, POOL, token)
        self.assertRaises(Unfit, heap_of, MIXED, 0)
        for token in (-1, 5):
            with self.assertRaises(NoToken) as caught:
                heap_of(POOL, token)
            self.assertEqual(caught.exception.token, token)


class TestRuns(TestCase):

    def setUp(self):
        self.sights = [sight for _, _, sight in some_sights(110) if how_many(sight) <= 60]

    def test_swaps(self):
        for sight in self.sights:
            rows = all_threadings(sight)
            for row in rows[::1 + len(rows) // 6]:
                wanted = sorted(plain.all_swaps(sight, row))
                self.assertEqual(swaps_of(sight, row), tuple(wanted))
                for swap in wanted:
                    new = swapped(sight, row, swap)
                    self.assertEqual(new, plain.exchanged(row, swap))
                    self.assertIs(is_threading(sight, new), True)
                    self.assertEqual(swapped(sight, new, swap), row)
                for near in range(len(sight)):
                    for far in range(near + 1):
                        self.assertIs(lie_together(sight, row, near, far), plain.lie(sight, row, near, far))

    def distances(self, sight, rows, start):
        """For each THREADING how many SWAPS it is away from start, found by going from one to the next."""
        found, edge = {start: 0}, [start]
        while edge:
            here = edge.pop(0)
            for swap in plain.all_swaps(sight, here):
                new = plain.exchanged(here, swap)
                if new not in found:
                    found[new] = found[here] + 1
                    edge.append(new)
        self.assertEqual(sorted(found), rows)
        return found

    def test_shortest_rows(self):
        for sight in [sight for sight in self.sights if 1 < how_many(sight) <= 24]:
            rows = all_threadings(sight)
            for goal in (rows[0], rows[len(rows) // 2], rows[-1]):
                away = self.distances(sight, rows, goal)
                for one in rows[::1 + len(rows) // 6]:
                    self.assertEqual(steps_apart(sight, one, goal), away[one])
                    self.assertEqual(steps_apart(sight, goal, one), away[one])
                    row = swap_row(sight, one, goal)
                    self.assertEqual(len(row), away[one])
                    self.assertIs(is_swap_row(sight, one, goal, row), True)
                    self.assertEqual(swapped_by(sight, one, row), goal)
                    first = [swap for swap in plain.all_swaps(sight, one)
                             if away[plain.exchanged(one, swap)] == away[one] - 1]
                    self.assertEqual(first_swaps(sight, one, goal), tuple(sorted(first)))
                    unlike = [token for token in range(len(one)) if one[token] != goal[token]]
                    self.assertEqual(unlike_outs(one, goal), tuple(unlike))

    def test_neighbours(self):
        for sight in self.sights:
            rows = all_threadings(sight)
            pairs = [(near, far) for far in range(len(sight)) for near in range(far)]
            ever = [pair for pair in pairs if any(plain.lie(sight, row, *pair) for row in rows)]
            always = [pair for pair in ever if all(plain.lie(sight, row, *pair) for row in rows)]
            self.assertEqual(ever_together(sight), tuple(sorted(ever)))
            self.assertEqual(always_together(sight), tuple(sorted(always)))
            self.check_heaps(sight, rows, ever)

    def check_heaps(self, sight, rows, ever):
        ins = [token for house in range(4) for token in ins_of(sight, house)]
        groups = [{token} for token in ins]
        for near, far in ever:
            joined = [group for group in groups if near in group or far in group]
            groups = [group for group in groups if group not in joined] + [set().union(*joined)]
        wanted = tuple(sorted(tuple(sorted(group)) for group in groups))
        self.assertEqual(heaps(sight), wanted)
        outs = []
        for heap in wanted:
            self.assertEqual({heap_of(sight, token) for token in heap}, {heap})
            for row in rows:
                self.assertEqual(heap_outs(sight, heap), tuple(token for token, own in enumerate(row)
                                                               if own in heap and token in all_outs(sight)))
            outs.extend(heap_outs(sight, heap))
            self.assertEqual(heap_ways(sight, heap), prod(lies_ahead(sight, token) for token in heap_outs(sight, heap)))
        self.assertEqual(sorted(outs), sorted(all_outs(sight)))
        self.assertEqual(prod(heap_ways(sight, heap) for heap in wanted), how_many(sight))
        for token in set(range(len(sight))) - set(ins):
            self.assertRaises(Unfit, heap_of, sight, token)
