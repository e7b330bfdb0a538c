"""Luck and picks: ordinary ones, edges, what is unfit, and the guarantees for all sizes to 5."""

from fractions import Fraction
from itertools import permutations, product
from math import factorial
from random import Random
from unittest import TestCase

from sendershade.errors import TooMany, Unfit
from sendershade.luck import (all_picks, exchanged_luck, first_unlike_pick, is_luck, luck_at, luck_for, luck_number,
                              next_luck, part_gone, pick_alike, picks, picks_count, picks_with, plain_luck, unpicked)
from tests.values import check_described

SIZES = [(size, many) for size in range(6) for many in range(size + 1)]
UNFIT_SIZES = ((-1, 0), (0, -1), (3, 4), (0, 1), (61, 0), (61, 61), (5, -1), (-2, -3))


def plain_ones(size, many):
    """All LUCKS of so many numbers, each below how many still lie."""
    return list(product(*[range(size - turn) for turn in range(many)]))


class TestLuck(TestCase):

    def test_is_luck(self):
        check_described(self, is_luck, [(0, 7)], [(), (0,), (0, 7, 0)])
        for right in ((), (0,), (10 ** 6,), (3, 3, 3), (0,) * 200):
            self.assertIs(is_luck(right), True, right)
        for wrong in ([], (True,), (False,), (-1,), (None,), ("1",), ((1,),), "", None, 0, True):
            self.assertIs(is_luck(wrong), False, wrong)

    def test_next_luck(self):
        self.assertEqual([next_luck((5,)), next_luck(()), next_luck((0, 2, 1))], [(5, ()), (0, ()), (0, (2, 1))])

    def test_picks(self):
        self.assertEqual(picks((), 0, 0), ())
        self.assertEqual(picks((), 5, 5), (0, 1, 2, 3, 4))
        self.assertEqual(picks((4,), 5, 3), (4, 0, 1))
        self.assertEqual(picks((1, 1, 1), 3, 0), ())
        self.assertEqual(picks((5, 5, 5), 3, 3), (2, 1, 0))
        self.assertEqual(picks((10 ** 6, 10 ** 6), 7, 2), (1, 5))
        self.assertEqual(picks((), 60, 60), tuple(range(60)))
        self.assertEqual(picks(tuple(reversed(range(60))), 60, 60), tuple(reversed(range(60))))
        self.assertEqual(unpicked((5, 5), 3, 2), (0,))
        self.assertEqual(unpicked((), 3, 0), (0, 1, 2))
        self.assertEqual(unpicked((2,), 3, 3), ())

    def test_luck_for(self):
        self.assertEqual([luck_for(3, ()), luck_for(3, (2, 0, 1)), luck_for(0, ()), luck_for(3, (1, 2))],
                         [(), (2, 0, 0), (), (1, 1)])
        for places in ((3,), (-1,), (0, 0), (0, 1, 2, 2), (0, 1, 2, 3)):
            self.assertRaises(Unfit, luck_for, 3, places)
        self.assertRaises(Unfit, luck_for, 0, (0,))
        self.assertEqual(luck_for(60, tuple(reversed(range(60)))), tuple(reversed(range(60))))

    def test_alike(self):
        self.assertIs(pick_alike((), (0, 0, 9), 3, 2), True)
        self.assertIs(pick_alike((4,), (1,), 3, 1), True)
        self.assertIs(pick_alike((0,), (1,), 3, 0), True)
        self.assertIs(pick_alike((0,), (1,), 3, 1), False)
        self.assertEqual(first_unlike_pick((0, 1), (1, 1), 3, 2), 0)
        self.assertEqual(first_unlike_pick((0, 1, 0), (0, 1, 1), 4, 3), 2)
        self.assertIsNone(first_unlike_pick((0, 1, 0), (0, 1, 1), 4, 2))
        self.assertIsNone(first_unlike_pick((0, 1), (0, 1, 5), 3, 3))

    def test_numbers(self):
        self.assertEqual([luck_number((), 0, 0), luck_number((9, 9), 5, 0), luck_at(0, 0, 0)], [0, 0, ()])
        for number in (0, 1, 12345, factorial(60) - 1):
            self.assertEqual(luck_number(luck_at(number, 60, 60), 60, 60), number)
        for number in (-1, 6, 7):
            self.assertRaises(Unfit, luck_at, number, 3, 2)
        self.assertRaises(Unfit, luck_at, 1, 3, 0)
        self.assertRaises(Unfit, luck_at, factorial(60), 60, 60)

    def test_all_picks(self):
        self.assertEqual([all_picks(0, 0), all_picks(60, 0), all_picks(1, 1)], [[()], [()], [(0,)]])
        self.assertEqual(len(all_picks(60, 2)), 3540)
        self.assertEqual(len(all_picks(17, 3)), 4080)
        for size, many in ((19, 3), (8, 5), (60, 60), (7, 7)):
            self.assertGreater(picks_count(size, many), 5000)
            self.assertRaises(TooMany, all_picks, size, many)

    def test_exchanged(self):
        self.assertEqual(exchanged_luck((0, 0), 3, 2, 0, 2), (2, 1))
        self.assertEqual(exchanged_luck((7, 7), 3, 2, 1, 1), (1, 1))
        self.assertEqual(exchanged_luck((), 3, 0, 1, 2), ())
        for one, other in ((-1, 0), (0, -1), (3, 0), (0, 3)):
            self.assertRaises(Unfit, exchanged_luck, (), 3, 1, one, other)

    def test_counts(self):
        self.assertEqual([picks_count(60, 60), picks_count(60, 1), picks_count(0, 0)], [factorial(60), 60, 1])
        self.assertEqual([part_gone(3, 0, 2), part_gone(3, 3, 0), part_gone(60, 45, 59)], [(0, 1), (1, 1), (3, 4)])
        for place, turn in ((-1, 0), (3, 0), (0, -1), (0, 2)):
            self.assertRaises(Unfit, picks_with, 3, 2, place, turn)
        self.assertRaises(Unfit, picks_with, 3, 0, 0, 0)
        for size, many, place in ((0, 0, 0), (3, 1, 3), (3, 1, -1)):
            self.assertRaises(Unfit, part_gone, size, many, place)


class TestUnfitSizes(TestCase):

    def test_ahead_of_all(self):
        for size, many in UNFIT_SIZES:
            for call, before, behind in ((picks, ((),), ()), (unpicked, ((),), ()), (picks_count, (), ()),
                                         (plain_luck, ((1,),), ()), (pick_alike, ((), ()), ()),
                                         (first_unlike_pick, ((), ()), ()), (luck_number, ((),), ()),
                                         (luck_at, (0,), ()), (all_picks, (), ()), (exchanged_luck, ((),), (0, 0)),
                                         (picks_with, (), (0, 0)), (part_gone, (), (0,))):
                with self.subTest(call=call, size=size, many=many):
                    self.assertRaises(Unfit, call, *before, size, many, *behind)
        self.assertRaises(Unfit, luck_for, 61, ())
        self.assertRaises(Unfit, luck_for, -1, ())
        self.assertEqual(luck_for(60, ()), ())


class TestGuarantees(TestCase):

    def test_all_picks_and_their_luck(self):
        for size, many in SIZES:
            told = all_picks(size, many)
            self.assertEqual(told, sorted(permutations(range(size), many)))
            self.assertEqual(picks_count(size, many), len(told))
            self.assertEqual([luck_at(number, size, many) for number in range(len(told))],
                             [luck_for(size, own) for own in told])
            self.assertEqual([picks(luck, size, many) for luck in plain_ones(size, many)], told)
            self.assertEqual([luck_number(luck, size, many) for luck in plain_ones(size, many)],
                             list(range(len(told))))
            self.assertRaises(Unfit, luck_at, len(told), size, many)

    def test_counted_picks(self):
        for size, many in SIZES:
            told = all_picks(size, many)
            for place in range(size):
                gone = len([own for own in told if place in own])
                self.assertEqual(Fraction(*part_gone(size, many, place)), Fraction(gone, len(told)))
                for turn in range(many):
                    wanted = len([own for own in told if own[turn] == place])
                    self.assertEqual(picks_with(size, many, place, turn), wanted)

    def test_any_luck(self):
        chance = Random(6)
        for size, many in SIZES * 10:
            one, other = [tuple(chance.randrange(9) for _ in range(chance.randrange(7))) for _ in range(2)]
            told, plain = picks(one, size, many), plain_luck(one, size, many)
            self.assertEqual(picks(plain, size, many), told)
            self.assertIn(plain, plain_ones(size, many))
            self.assertEqual(picks(one[:many], size, many), told)
            self.assertEqual(sorted(told + unpicked(one, size, many)), list(range(size)))
            self.assertIs(pick_alike(one, other, size, many), plain == plain_luck(other, size, many))
            first = first_unlike_pick(one, other, size, many)
            far = picks(other, size, many)
            self.assertEqual(first, next((turn for turn in range(many) if told[turn] != far[turn]), None))

    def test_exchanged_picks(self):
        for size, many in SIZES:
            for luck, one, other in product(plain_ones(size, many)[::3], range(size), range(size)):
                wanted = tuple({one: other, other: one}.get(place, place) for place in picks(luck, size, many))
                told = exchanged_luck(luck, size, many, one, other)
                self.assertEqual(picks(told, size, many), wanted)
                self.assertEqual(plain_luck(told, size, many), told)
