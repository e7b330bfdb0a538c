"""Covers: ordinary ones, edges, wrong things, and the guarantees for all covers of a small net."""

from itertools import combinations, product
from unittest import TestCase

from sendershade.covers import (gone_through, goes_to, is_cover, is_letter, layers, like_before, next_mixing,
                                opened_cover, rests_exchanged, spots_on, still_before, unrolled, with_past,
                                word_shown, wrapped)
from sendershade.errors import Unfit
from tests.values import check_described

NET = (2, 3)
ROUTES = [route for many in (1, 2, 3) for route in combinations(range(3), many)]
LETTERS = list(product((0, 1), ROUTES, (0, 1), (0, 4)))
COVERS = [cover for letter in LETTERS for cover in layers(letter)]
LONG = (1, (0, 1, 2), 0, 4)
LONE = (0, (0,), 0, 0)


class TestForms(TestCase):

    def test_letters(self):
        check_described(self, lambda thing: is_letter((4, 3), thing), [(0, (0, 1, 2), 3, 7), (3, (2,), 3, 0)])
        check_described(self, lambda thing: is_letter((1, 1), thing), [LONE])
        for wrong in ((2, (0,), 1, 7), (0, (0,), 2, 7), (0, (3,), 1, 7), (0, (1, 1), 1, 7), (0, (2, 1), 1, 7),
                      (0, (), 1, 7), (0, (0, 1, 2, 3), 1, 7), (0, (-1, 0), 1, 7), (0, (0,), 1, -1)):
            self.assertIs(is_letter(NET, wrong), False, wrong)
        self.assertIs(is_letter(NET, (1, (0,), 1, 10 ** 9)), True)
        self.assertIs(is_letter([2, 3], LONG), True)
        self.assertIs(is_letter((10 ** 9, 10 ** 9), (10 ** 8, (10 ** 8,), 0, 0)), True)

    def test_covers(self):
        check_described(self, lambda thing: is_cover(NET, thing), [(LONG, 0), (LONG, 3), ((1, (2,), 0, 5), 1)])
        for wrong in ((LONG, 4), (LONG, -1), (LONG, None), ((0, (), 1, 7), 0), ((2, (0,), 1, 7), 0), LONG):
            self.assertIs(is_cover(NET, wrong), False, wrong)
        self.assertIs(is_cover((1, 3), (LONG, 0)), False)


class TestCovers(TestCase):

    def test_layers_one_by_one(self):
        self.assertEqual(wrapped(LONG), (LONG, 0))
        self.assertEqual(layers(LONG), ((LONG, 0), (LONG, 1), (LONG, 2), (LONG, 3)))
        self.assertEqual(layers(LONE), ((LONE, 0), (LONE, 1)))
        self.assertEqual([goes_to(cover) for cover in layers(LONG)],
                         [("house", 0), ("house", 1), ("house", 2), ("person", 0)])
        self.assertEqual(spots_on(LONG), (("person", 1), ("house", 0), ("house", 1), ("house", 2), ("person", 0)))

    def test_opened(self):
        for letter in LETTERS:
            told = layers(letter)
            self.assertEqual([opened_cover(cover) for cover in told[:-1]], list(told[1:]))
            self.assertRaises(Unfit, opened_cover, told[-1])

    def test_before_and_past(self):
        self.assertEqual(still_before((LONG, 0)), ((0, 1, 2), 0, 4))
        self.assertEqual(still_before((LONG, 3)), ((), 0, 4))
        self.assertEqual(gone_through((LONG, 0)), (1, ()))
        self.assertEqual(gone_through((LONG, 3)), (1, (0, 1, 2)))
        self.assertIs(like_before((LONG, 1), ((0, (1, 2), 0, 4), 0)), True)
        for other in ((0, (1, 2), 0, 3), (0, (1, 2), 1, 4), (0, (2,), 0, 4)):
            self.assertIs(like_before((LONG, 1), (other, 0)), False)

    def test_with_past(self):
        self.assertEqual(with_past((LONG, 1), 0, ()), ((0, (1, 2), 0, 4), 0))
        self.assertEqual(with_past((LONG, 2), 0, (1,)), ((0, (1, 2), 0, 4), 1))
        self.assertEqual(with_past((LONG, 3), 0, (1, 2)), ((0, (1, 2), 0, 4), 2))
        self.assertEqual(with_past((LONG, 0), 0, ()), ((0, (0, 1, 2), 0, 4), 0))
        for cover, past in (((LONG, 1), (1,)), ((LONG, 1), (0, 1)), ((LONG, 0), (2,)), ((LONG, 3), ())):
            self.assertRaises(Unfit, with_past, cover, 0, past)

    def test_rests_exchanged(self):
        one, other = ((0, (0, 2), 1, 0), 1), ((1, (1, 2), 0, 4), 1)
        self.assertEqual(rests_exchanged(one, other), (((0, (0, 2), 0, 4), 1), ((1, (1, 2), 1, 0), 1)))
        self.assertEqual(rests_exchanged((LONG, 3), (LONE, 1)), (((1, (0, 1, 2), 0, 0), 3), ((0, (0,), 0, 4), 1)))
        self.assertRaises(Unfit, rests_exchanged, (LONG, 2), (LONE, 0))
        self.assertRaises(Unfit, rests_exchanged, (LONE, 0), (LONG, 2))
        self.assertRaises(Unfit, rests_exchanged, (LONE, 0), (LONE, 1))

    def test_unrolled(self):
        self.assertEqual(unrolled(((), ()), (LONG, 0)), ((LONG, 0),))
        self.assertEqual(unrolled(((), (0, 1)), (LONG, 0)), ((LONG, 0), (LONG, 1), (LONG, 2)))
        self.assertEqual(unrolled(((0,), (0, 1, 2)), (LONG, 1)), ((LONG, 1), (LONG, 2), (LONG, 3)))
        self.assertEqual(unrolled(((0, 1), (1,)), (LONG, 0)), ((LONG, 0),))
        self.assertEqual(unrolled(((0, 1), (0, 1, 2)), (LONG, 3)), ((LONG, 3),))

    def test_next_mixing(self):
        self.assertEqual([next_mixing(((), (1,)), cover) for cover in layers(LONG)], [0, 2, 2, None])
        self.assertEqual([next_mixing(((0,), ()), cover) for cover in layers(LONG)], [0, 1, 2, None])
        self.assertIsNone(next_mixing(((), (0, 1, 2)), (LONG, 0)))

    def test_word_shown(self):
        self.assertEqual([word_shown(((0,), (0,)), cover) for cover in layers(LONG)], [None, None, None, 4])
        self.assertEqual(word_shown(((0,), ()), (LONE, 1)), 0)
        self.assertIsNone(word_shown(((1,), (0,)), (LONG, 3)))


class TestGuarantees(TestCase):

    def test_told_by_what_is_still_before(self):
        for one, other in product(COVERS, COVERS):
            if like_before(one, other):
                self.assertEqual(goes_to(one), goes_to(other))
                if goes_to(one)[0] == "house":
                    self.assertIs(like_before(opened_cover(one), opened_cover(other)), True)

    def test_one_cover_only(self):
        for cover in COVERS:
            self.assertEqual(with_past(cover, *gone_through(cover)), cover)
        told = [(gone_through(cover), still_before(cover)) for cover in COVERS]
        self.assertEqual(len(set(told)), len(COVERS))

    def test_exchanged_twice(self):
        for one, other in product(COVERS, COVERS):
            if goes_to(one) != goes_to(other) or goes_to(one)[0] == "person":
                continue
            near, far = rests_exchanged(one, other)
            self.assertEqual((goes_to(near), goes_to(far)), (goes_to(one), goes_to(other)))
            self.assertEqual((gone_through(near), gone_through(far)), (gone_through(one), gone_through(other)))
            self.assertEqual((still_before(near), still_before(far)), (still_before(other), still_before(one)))
            self.assertEqual(rests_exchanged(near, far), (one, other))
