"""How many are enough: bounds beside all rows of arrivals, COUNTS beside played WORLDS; edges, errors, wrong things."""

from fractions import Fraction
from unittest import TestCase

from sendershade.errors import NoToken, Unfit
from sendershade.least import (behind, bound_at, counts_of, heavy_ones, is_counts, is_enough, least_batch, least_bound,
                               least_keep, least_rules, left_least, left_most, share_bound, sure_many, thin_ones,
                               weak_houses)
from sendershade.shades import shades
from sendershade.shares import share_table
from sendershade.sights import sight_of
from tests import plain
from tests.scenes import some_scene, some_sights
from tests.sights import HOME, LONE, MIXED, ONE, POOL, TWICE, TWO, ZERO, crowd
from tests.values import broken, listed

CARELESS = ((2, 1, 3, True, True), (2, 1, None, False, True), (2, 1, None, True, False), (2, 1, None, False, False))


def rest_of(bad):
    return (tuple(range(bad)), ())


def careful(batch, keep):
    return (batch, keep, None, True, True)


def sums(many):
    """All tuples of numbers from 1 that add up to many."""
    return [()] if many == 0 else [(first,) + row for first in range(1, many + 1) for row in sums(many - first)]


def left_by(batch, keep, row):
    """How many go if so many come, moment by moment."""
    lying, gone = 0, 0
    for many in row:
        lying += many
        if lying >= batch + keep:
            gone, lying = gone + lying - keep, keep
    return gone


class TestRules(TestCase):

    def test_sure_many(self):
        for batch in range(1, 5):
            for keep in range(5):
                for bad in range(5):
                    told = sure_many(careful(batch, keep), rest_of(bad))
                    self.assertEqual(told, max(1, batch + keep - bad))
        # HOUSES of the rest do not matter.
        self.assertEqual(sure_many(careful(2, 1), ((3,), (0, 1, 2))), 2)

    def test_least_batch_and_keep(self):
        for want in range(1, 6):
            for bad in range(5):
                for own in range(1, 8):
                    rest = rest_of(bad)
                    fit = [batch for batch in range(1, 20) if sure_many(careful(batch, own), rest) >= want]
                    self.assertEqual(least_batch(want, rest, own), fit[0])
                    fit = [batch for batch in range(1, 20) if sure_many(careful(batch, 0), rest) >= want]
                    self.assertEqual(least_batch(want, rest, 0), fit[0])
                    fit = [keep for keep in range(20) if sure_many(careful(own, keep), rest) >= want]
                    self.assertEqual(least_keep(want, rest, own), fit[0])

    def test_least_rules(self):
        def enough(batch, keep, want, rest):
            return batch > 0 and keep >= 0 and sure_many(careful(batch, keep), rest) >= want

        for want in range(1, 6):
            for bad in range(5):
                rest = rest_of(bad)
                told = [careful(batch, keep) for batch in range(1, 15) for keep in range(15)
                        if enough(batch, keep, want, rest) and not enough(batch - 1, keep, want, rest)
                        and not enough(batch, keep - 1, want, rest)]
                self.assertEqual(least_rules(want, rest), tuple(told))
        self.assertEqual(least_rules(1, rest_of(4)), (careful(1, 0),))

    def test_weak_houses(self):
        rules = (careful(2, 0), careful(1, 2), CARELESS[0], CARELESS[1], CARELESS[2], careful(4, 0))
        self.assertEqual(weak_houses(3, rest_of(0), rules), (0, 2, 3, 4))
        self.assertEqual(weak_houses(3, rest_of(1), rules), (0, 1, 2, 3, 4))
        self.assertEqual(weak_houses(3, ((0,), (0, 2, 4)), rules), (1, 3))
        self.assertEqual(weak_houses(1, rest_of(4), rules), (2, 3, 4))
        self.assertEqual(weak_houses(9, ((), (0, 1, 2, 3, 4, 5)), rules), ())
        for want in range(1, 5):
            for bad in range(3):
                told = weak_houses(want, rest_of(bad), rules[:2])
                self.assertIs(is_enough(want, rest_of(bad), rules[:2]), told == ())
                self.assertEqual(told, tuple(house for house in (0, 1)
                                             if sure_many(rules[house], rest_of(bad)) < want))

    def test_left(self):
        for batch in range(1, 5):
            for keep in range(4):
                for many in range(10):
                    told = [left_by(batch, keep, row) for row in sums(many)]
                    rule = careful(batch, keep)
                    self.assertEqual((left_least(rule, many), left_most(rule, many)), (min(told), max(told)),
                                     (rule, many))

    def test_careless_rules(self):
        for rule in CARELESS:
            self.assertRaises(Unfit, sure_many, rule, rest_of(0))
            for many in (0, 9):
                self.assertRaises(Unfit, left_least, rule, many)
                self.assertRaises(Unfit, left_most, rule, many)


class TestCounts(TestCase):

    def test_told(self):
        # One of the three that lie is known.
        self.assertEqual([counts_of(MIXED, house) for house in (0, 1, 2)], [((2, 3, 2),), (), ()])
        self.assertEqual([bound_at(MIXED, token) for token in range(7)], [1, 1, 1, 2, 1, 2, 2])
        self.assertEqual(share_bound(MIXED, 6), (1, 2))
        self.assertEqual((behind(MIXED), least_bound(MIXED)), ((3, 5, 6), 2))
        self.assertEqual([counts_of(POOL, 0), counts_of(LONE, 0), counts_of(TWICE, 1)],
                         [((2, 2, 2), (3, 2, 2)), ((2, 1, 1), (3, 1, 1)), ((3, 2, 2),)])

    def test_nothing_went(self):
        for sight in ((), POOL[:3], ((ZERO, HOME, 1, None, None),)):
            self.assertEqual((counts_of(sight, 0), behind(sight), least_bound(sight)), ((), (), None))
            self.assertEqual((thin_ones(sight, 9), heavy_ones(sight, 9)), ((), ()))
            self.assertIs(is_counts(sight, 0, ()), True)
            self.assertIs(is_counts(sight, 0, []), False)

    def test_opened_at_once(self):
        # What the rest opens first is behind no steady HOUSE; what it opens of an out is.
        after = ("house", 1)
        sight = ((ZERO, HOME, 1, None, None), (HOME, after, 1, 2, ("opened", 0)), (ONE, after, 1, 2, None),
                 (after, ("house", 2), 2, None, None), (("house", 2), ("house", 3), 2, None, ("opened", 3)),
                 (("house", 3), TWO, 2, None, ("opened", 4)))
        self.assertEqual(behind(sight), (3, 4, 5))
        self.assertEqual([bound_at(sight, token) for token in range(6)], [1, 1, 1, 2, 2, 2])
        self.assertEqual([counts_of(sight, house) for house in range(4)], [(), ((2, 2, 2),), (), ()])

    def test_only_a_known_one_went(self):
        own = (2, (0,), 1, 4)
        sight = ((ZERO, HOME, 1, 2, None), (TWO, HOME, 1, 2, ("own", own, 0)), (HOME, ONE, 2, None, ("own", own, 1)),
                 (HOME, ONE, 3, None, None))
        self.assertEqual(counts_of(sight, 0), ((2, 2, 1), (3, 1, 1)))
        self.assertEqual((behind(sight), least_bound(sight)), ((3,), 1))

    def test_is_counts(self):
        right = ((2, 3, 2),)
        self.assertIs(is_counts(MIXED, 0, right), True)
        self.assertIs(is_counts(POOL, 0, ((2, 2, 2), (3, 2, 2))), True)
        for thing in broken(right) + [((2, 3, 3),), ((1, 3, 2),), right * 2, listed(right)]:
            self.assertIs(is_counts(MIXED, 0, thing), False, thing)
        for thing in (None, True, 0, "", [], ((),), right):
            self.assertIs(is_counts(MIXED, 1, thing), False, thing)

    def test_no_token(self):
        for token in (-1, 5, 99):
            for call in (bound_at, share_bound):
                with self.assertRaises(NoToken) as caught:
                    call(POOL, token)
                self.assertEqual(caught.exception.token, token)

    def test_thin_and_heavy(self):
        self.assertEqual([thin_ones(POOL, want) for want in (1, 2, 3, 4)], [(), (), (3,), (3, 4)])
        # Shares are a half and a half; then a quarter, a quarter, and a half.
        self.assertEqual([heavy_ones(POOL, want) for want in (1, 2, 3)], [(), (), (3, 4)])
        self.assertEqual([heavy_ones(LONE, want) for want in (1, 2)], [(), (2, 3)])

    def test_far_too_many(self):
        sight = crowd(8, 7, 5)
        self.assertEqual((least_bound(sight), len(behind(sight))), (8, 39))
        self.assertEqual((thin_ones(sight, 8), heavy_ones(sight, 8), len(thin_ones(sight, 9))), ((), (), 39))


class TestRuns(TestCase):

    def test_any_sights(self):
        for _, _, sight in some_sights(80):
            tags = [row[4] for row in sight]
            wanted = []
            for token, (spot, _, _, _, tag) in enumerate(sight):
                opened = tag is not None and tag[0] == "opened" and tag[1] in wanted
                if opened or (spot[0] == "house" and tag is None):
                    wanted.append(token)
            self.assertEqual(behind(sight), tuple(wanted))
            told, parts = shades(sight), share_table(sight)
            for want in range(1, 6):
                self.assertEqual(thin_ones(sight, want), tuple(own for own in wanted if len(told[own]) < want))
                self.assertEqual(heavy_ones(sight, want), tuple(
                    own for own in wanted if any(Fraction(*part) > Fraction(1, want) for _, part in parts[own])))
            for token in range(len(sight)):
                if tags[token] is not None and tags[token][0] == "opened":
                    self.assertEqual(bound_at(sight, token), bound_at(sight, tags[token][1]))
                elif token in wanted:
                    spot, _, sent = sight[token][:3]
                    outs = [own for own in plain.outs(sight) if sight[own][0] == spot and sight[own][2] < sent]
                    self.assertEqual(bound_at(sight, token), len(plain.in_time(sight, spot, sent)) - len(outs))
                else:
                    self.assertEqual(bound_at(sight, token), 1)
                self.assertEqual(share_bound(sight, token), (1, bound_at(sight, token)))
            self.assertEqual(least_bound(sight), min([bound_at(sight, own) for own in wanted], default=None))

    def test_played_worlds(self):
        """COUNTS are what lies as the WORLDS are played, and keep what RULES promise."""
        for number in range(120):
            start, plan, along = some_scene(number)
            net, rest, rules = start[:3]
            last = along[-1]
            sight = sight_of(last)
            for house in range(net[1]):
                wanted = []
                for early, late in zip(along, along[1:]):
                    gone = [row for row in late[6] if row[1] == ("house", house) and row[2] == late[4]]
                    if gone and house not in rest[1]:
                        lay = list(early[5][house][0]) + [own for own, then in late[5][house][1] if then == late[4]]
                        hidden = [own for own in lay if late[6][own][0][0][0] not in rest[0]]
                        wanted.append((late[4], len(lay), len(hidden)))
                self.assertEqual(counts_of(sight, house), tuple(wanted))
                self.assertIs(is_counts(sight, house, tuple(wanted)), True)
                for moment, many, hidden in wanted:
                    total = rules[house][0] + rules[house][1]
                    self.assertGreaterEqual(many, total)
                    self.assertLessEqual(many - hidden, len(rest[0]))
                    known = [row for row in last[6] if row[1] == ("house", house) and row[2] == moment
                             and row[0][0][0] in rest[0]]
                    gone = [row for row in last[6] if row[1] == ("house", house) and row[2] == moment]
                    self.assertGreaterEqual(hidden, max(total - len(rest[0]), 1 if len(known) < len(gone) else 0))

    def test_what_is_enough(self):
        for number in range(160):
            start, _, along = some_scene(number)
            net, rest, rules = start[:3]
            sight = sight_of(along[-1])
            told, parts = shades(sight), share_table(sight)
            for token in behind(sight):
                bound = bound_at(sight, token)
                self.assertGreaterEqual(len(told[token]), bound)
                for _, part in parts[token]:
                    self.assertLessEqual(Fraction(*part), Fraction(*share_bound(sight, token)))
            for want in range(1, 5):
                if is_enough(want, rest, rules):
                    self.assertEqual((thin_ones(sight, want), heavy_ones(sight, want)), ((), ()))
