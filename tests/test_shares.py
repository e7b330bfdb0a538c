"""SHARES beside counting through all THREADINGS; pools, SHARE PAPERS; edges, errors, wrong things."""

from fractions import Fraction
from unittest import TestCase

from sendershade.errors import NoPaper, NoToken, TooMany
from sendershade.shades import shade
from sendershade.shares import (counted_share, greatest_share, is_share_paper, is_shares, lying_shares, pool_at, share,
                                share_paper, share_table, sharers, shares_of)
from sendershade.sights import all_outs, lies_ahead, lying_behind
from sendershade.threads import all_threadings, how_many, still_lying
from tests import plain
from tests.scenes import some_sights
from tests.sights import LONE, MIXED, POOL, TWICE, crowd, just_5000
from tests.values import broken, listed

ALL, HALF, NONE = (1, 1), (1, 2), (0, 1)
BOTH = ((0, HALF), (1, HALF))


def alone(person):
    return ((person, ALL),)


class TestTold(TestCase):

    def test_kinds(self):
        self.assertEqual(share_table(MIXED), (alone(2), alone(0), alone(1), BOTH, alone(2), BOTH, BOTH))
        self.assertEqual(share_table(LONE), (alone(1), alone(2), alone(1), alone(2)))
        self.assertEqual(share_table(TWICE), (alone(0), alone(1), BOTH, BOTH, BOTH))
        self.assertEqual(share_table(()), ())
        self.assertEqual([shares_of(POOL, token) for token in (2, 3, 4)],
                         [alone(2), BOTH, ((0, (1, 4)), (1, (1, 4)), (2, HALF))])
        self.assertEqual([share(POOL, 4, person) for person in (0, 1, 2, 3, 99)], [(1, 4), (1, 4), HALF, NONE, NONE])

    def test_no_token(self):
        for token in (-1, 5, 99):
            for call, given in ((share, (0,)), (shares_of, ()), (greatest_share, ()), (sharers, (HALF,)), (pool_at, ()),
                                (counted_share, (0,)), (share_paper, ()), (is_share_paper, (None,))):
                with self.assertRaises(NoToken) as caught:
                    call(POOL, token, *given)
                self.assertEqual(caught.exception.token, token)
        self.assertRaises(NoToken, shares_of, (), 0)

    def test_greatest_and_sharers(self):
        self.assertEqual([greatest_share(POOL, token) for token in (2, 3, 4)], [(2, ALL), (0, HALF), (2, HALF)])
        self.assertEqual([sharers(POOL, 4, part) for part in ((1, 1000), (1, 4), (1, 3), HALF, (51, 100), ALL)],
                         [(0, 1, 2), (0, 1, 2), (2,), (2,), (), ()])
        self.assertEqual([sharers(MIXED, 4, part) for part in (HALF, ALL)], [(2,), (2,)])

    def test_counted(self):
        self.assertEqual([counted_share(MIXED, 6, person) for person in (0, 1, 2, 9)], [HALF, HALF, NONE, NONE])
        self.assertEqual([counted_share(MIXED, 4, person) for person in (0, 2)], [NONE, ALL])
        many = crowd(8, 8)
        for token in (0, 8, 15):
            self.assertRaises(TooMany, counted_share, many, token, 0)
        self.assertRaises(NoToken, counted_share, many, 16, 0)
        sight = just_5000()
        for token in (8, 14):
            self.assertEqual(counted_share(sight, token, 2), share(sight, token, 2))

    def test_pools(self):
        self.assertEqual([pool_at(MIXED, token) for token in (3, 5)], [(2, ((0, ALL), (1, ALL))), (1, BOTH)])
        self.assertEqual(pool_at(POOL, 4), (2, ((0, HALF), (1, HALF), (2, ALL))))
        for token in (0, 1, 4, 6):
            self.assertRaises(NoPaper, pool_at, MIXED, token)

    def test_lying(self):
        self.assertEqual([lying_shares(sight, 0) for sight in (MIXED, LONE, TWICE, ())], [(0, ())] * 4)
        self.assertEqual(lying_shares(POOL, 0), (1, ((0, (1, 4)), (1, (1, 4)), (2, HALF))))
        self.assertEqual(lying_shares(POOL[:3], 0), (3, ((0, ALL), (1, ALL), (2, ALL))))
        self.assertEqual([lying_shares(POOL, house) for house in (1, 99)], [(0, ())] * 2)
        self.assertEqual((lying_shares(TWICE, 1), lying_shares(TWICE[:4], 1)),
                         ((1, BOTH), (2, ((0, ALL), (1, ALL)))))

    def test_far_too_many(self):
        sight = crowd(8, 7, 5)
        eighth = tuple((person, (1, 8)) for person in range(8))
        self.assertEqual({shares_of(sight, token) for token in range(8, len(sight))}, {eighth})
        self.assertEqual((lying_shares(sight, 4), pool_at(sight, 8)),
                         ((1, eighth), (8, tuple((person, ALL) for person in range(8)))))
        self.assertIs(is_share_paper(sight, len(sight) - 1, share_paper(sight, len(sight) - 1)), True)


class TestIsShares(TestCase):

    def test_right(self):
        for thing in (alone(0), alone(10 ** 9), BOTH, ((0, (1, 3)), (5, (2, 3))),
                      ((0, (1, 4)), (1, (1, 4)), (2, HALF))):
            self.assertIs(is_shares(thing), True)
            for other in broken(thing):
                self.assertIs(is_shares(other), False, other)

    def test_wrong(self):
        for thing in ((), None, [], True, 1, "", ((0, 1),), (0, ALL), (0, (1, 1)), ((1, HALF), (0, HALF)), ((0, HALF),),
                      ((0, HALF), (0, HALF)), ((0, ALL), (1, NONE)), ((0, (2, 4)), (1, HALF)), ((0, (2, 2)),),
                      ((0, (3, 2)), (1, (-1, 2))), BOTH + ((2, HALF),), [(0, ALL)], ([0, ALL],), ((0, [1, 1]),),
                      ((True, ALL),), ((0, (True, 1)),), ((0, (1, True)),), ((-1, ALL),), ((None, ALL),), ((0, None),),
                      ((0, (-1, -1)),), ((0, ALL, 0),), (("0", ALL),), ((0, (1, 0)),)):
            self.assertIs(is_shares(thing), False, thing)


class TestPapers(TestCase):

    def setUp(self):
        self.sheet = ((0, alone(0)), (1, alone(1)), (3, BOTH))

    def test_right(self):
        self.assertIs(is_share_paper(POOL, 3, self.sheet), True)
        self.assertEqual(share_paper(POOL, 3), self.sheet)
        for thing in broken(self.sheet):
            self.assertIs(is_share_paper(POOL, 3, thing), False, thing)

    def test_not_needed(self):
        more = self.sheet[:2] + ((2, alone(2)),) + self.sheet[2:]
        self.assertIs(is_share_paper(POOL, 3, more), True)
        self.assertIs(is_share_paper(POOL, 1, self.sheet[:2]), True)
        self.assertIs(is_share_paper(POOL, 1, self.sheet[1:2]), True)
        # Also what is not needed is right by those ahead of it.
        wrong = self.sheet[:2] + ((2, alone(1)),) + self.sheet[2:]
        self.assertIs(is_share_paper(POOL, 3, wrong), False)
        whole = tuple(enumerate(share_table(MIXED)))
        self.assertIs(is_share_paper(MIXED, 6, whole), True)
        for place in (1, 2, 3, 5, 6):
            self.assertIs(is_share_paper(MIXED, 6, whole[:place] + whole[place + 1:]), False)
        for place in (0, 4):
            # Both are known: each is right by itself.
            self.assertIs(is_share_paper(MIXED, 6, whole[:place] + whole[place + 1:]), True)
        self.assertIs(is_share_paper(MIXED, 4, ((4, alone(2)),)), True)
        self.assertIs(is_share_paper(MIXED, 4, ((4, alone(0)),)), False)

    def test_wrong(self):
        for thing in ((), None, True, "", [], listed(self.sheet), self.sheet[:2], self.sheet[1:], self.sheet[::-1],
                      self.sheet + self.sheet[2:], self.sheet + ((4, alone(2)),), ((3, BOTH),), (3, BOTH),
                      self.sheet[:2] + ((3, alone(0)),), self.sheet[:2] + ((3, ((0, (1, 3)), (1, (2, 3)))),),
                      self.sheet[:2] + ((3, ((0, (2, 4)), (1, HALF))),), self.sheet[:2] + ((3, BOTH + ((2, NONE),)),),
                      self.sheet[:2] + ((3, BOTH[::-1]),), self.sheet[:2] + ((3, None),), self.sheet[:2] + ((3,),),
                      ((False, alone(0)),) + self.sheet[1:], ((0, ((False, ALL),)),) + self.sheet[1:],
                      ((0, ((0, (True, 1)),)),) + self.sheet[1:], ((-5, alone(0)),) + self.sheet,
                      self.sheet + ((9, BOTH),), ((0, alone(0)), (1, alone(1)), (7, BOTH))):
            self.assertIs(is_share_paper(POOL, 3, thing), False, thing)
        self.assertIs(is_share_paper(POOL, 4, self.sheet), False)
        whole = tuple(enumerate(share_table(POOL)))
        self.assertEqual([is_share_paper(POOL, token, whole) for token in range(5)], [False] * 4 + [True])


class TestRuns(TestCase):

    def setUp(self):
        self.sights = [(net, sight) for net, _, sight in some_sights(110) if how_many(sight) <= 300]

    def test_beside_counting(self):
        for net, sight in self.sights:
            rows = all_threadings(sight)
            table = share_table(sight)
            self.assertEqual(table, tuple(plain.shares(sight, rows, token) for token in range(len(sight))))
            for token in range(len(sight)):
                told = shares_of(sight, token)
                self.assertEqual(told, table[token])
                self.assertIs(is_shares(told), True)
                self.assertEqual(tuple(person for person, _ in told), shade(sight, token))
                for person in range(net[0] + 1):
                    part = dict(told).get(person, NONE)
                    self.assertEqual(share(sight, token, person), part)
                    if token % 3 == 0:
                        self.assertEqual(counted_share(sight, token, person), part)
                best = max(Fraction(*part) for _, part in told)
                self.assertEqual(greatest_share(sight, token),
                                 [(own, part) for own, part in told if Fraction(*part) == best][0])
                for part in (HALF, (1, 3), (2, 7), ALL):
                    self.assertEqual(sharers(sight, token, part),
                                     tuple(own for own, mine in told if Fraction(*mine) >= Fraction(*part)))

    def test_pools(self):
        for net, sight in self.sights:
            rows = all_threadings(sight)
            for token in range(len(sight)):
                if token not in all_outs(sight):
                    self.assertRaises(NoPaper, pool_at, sight, token)
                    continue
                many, totals = pool_at(sight, token)
                self.assertEqual(many, lies_ahead(sight, token))
                lying = [[own for own in plain.candidates(sight, token) if own not in row[:token]] for row in rows]
                self.assertEqual(totals, self.added(sight, rows, lying))
                self.assertTrue(all(Fraction(*part) <= 1 for _, part in totals))
                self.assertLessEqual(Fraction(*greatest_share(sight, token)[1]), Fraction(1, many))
            for house in range(net[1]):
                many, totals = lying_shares(sight, house)
                self.assertEqual(many, lying_behind(sight, house, 10 ** 6))
                self.assertEqual(totals, self.added(sight, rows, [still_lying(sight, row, house) for row in rows]))

    def added(self, sight, rows, lying):
        """How often each PERSON is a sender of what lies, in the middle of all THREADINGS."""
        told = {}
        for row, tokens in zip(rows, lying):
            for own in tokens:
                person = plain.sender(sight, row, own)
                told[person] = told.get(person, 0) + Fraction(1, len(rows))
        return tuple((own, (told[own].numerator, told[own].denominator)) for own in sorted(told))

    def test_papers(self):
        for _, sight in self.sights[:120]:
            whole = tuple(enumerate(share_table(sight)))
            for token in range(len(sight)):
                told = share_paper(sight, token)
                self.assertEqual(told[-1], whole[token])
                self.assertIs(is_share_paper(sight, token, told), True)
                self.assertIs(is_share_paper(sight, token, whole[:token + 1]), True)
                self.assertIs(is_share_paper(sight, token, whole[:token]), False)
                for place in range(len(told)):
                    self.assertIs(is_share_paper(sight, token, told[:place] + told[place + 1:]), False)
                    wrong = ((told[place][0], ((77, ALL),)),)
                    self.assertIs(is_share_paper(sight, token, told[:place] + wrong + told[place + 1:]), False)
