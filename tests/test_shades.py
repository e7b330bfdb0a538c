"""SHADES, CHAINS and CUTS beside going through all THREADINGS; edges, errors, wrong things."""

from itertools import combinations
from math import factorial
from unittest import TestCase

from sendershade.errors import NoPaper, NoToken, Unfit
from sendershade.shades import (becomes, chain, chain_count, cut, is_chain, is_cut, may_come, shade, shades,
                                shades_apart, sources, sure_sender, thinnest, threading_with)
from sendershade.sights import all_outs, sight_at
from sendershade.swaps import heap_outs, heaps
from sendershade.threads import all_threadings, how_many, is_threading, threading_at
from tests import plain
from tests.scenes import some_sights
from tests.sights import LONE, MIXED, POOL, TWICE, crowd
from tests.values import broken, listed


class TestTold(TestCase):

    def test_kinds(self):
        # From a PERSON, known, opened, outs.
        self.assertEqual([sources(MIXED, token) for token in range(7)], [(), (), (), (1, 2), (0,), (1, 2), (5,)])
        self.assertEqual([becomes(MIXED, token) for token in range(7)], [(4,), (3, 5), (3, 5), (), (), (6,), ()])
        self.assertEqual(shades(MIXED), ((2,), (0,), (1,), (0, 1), (2,), (0, 1), (0, 1)))
        self.assertEqual([sure_sender(MIXED, token) for token in range(7)], [2, 0, 1, None, 2, None, None])
        self.assertEqual([may_come(MIXED, token, 1) for token in range(7)], [False] * 3 + [True, False, True, False])
        self.assertEqual([may_come(MIXED, 4, token) for token in range(7)], [True] + [False] * 6)

    def test_what_surely_went(self):
        self.assertEqual([sources(LONE, token) for token in (2, 3)], [(0,), (1,)])
        self.assertEqual([sources(POOL, token) for token in (3, 4)], [(0, 1), (0, 1, 2)])
        # The first one lies alone as it goes; the next two come at that moment, and a bit later.
        at = ("house", 0)
        rows = ((("person", 0), at, 1, 2, None), (at, ("person", 0), 2, None, None), (("person", 1), at, 2, 3, None),
                (("person", 2), at, 2, 3, None), (at, ("person", 0), 3, None, None), (at, ("person", 0), 3, None, None))
        self.assertEqual([sources(rows, token) for token in (1, 4, 5)], [(0,), (2, 3), (2, 3)])
        self.assertEqual(shades(rows)[4:], ((1, 2), (1, 2)))

    def test_what_lies_alone_at_its_moment(self):
        # Both go at 2; the second one lies alone then, and may still be either.
        at = ("house", 0)
        rows = ((("person", 0), at, 1, 2, None), (("person", 1), at, 1, 2, None), (at, ("person", 0), 2, None, None),
                (at, ("person", 0), 2, None, None), (("person", 2), at, 2, 4, None), (at, ("person", 0), 4, None, None))
        self.assertEqual([sources(rows, token) for token in (2, 3, 5)], [(0, 1), (0, 1), (4,)])

    def test_no_token(self):
        for token in (-1, 5, 99):
            for call in (sources, becomes, shade, sure_sender):
                self.check_no_token(token, call, POOL, token)
            for call in (may_come, shades_apart):
                self.check_no_token(token, call, POOL, token, 77)
                self.check_no_token(token, call, POOL, 0, token)
            for call in (chain, chain_count, cut):
                self.check_no_token(token, call, POOL, token, 9)
            self.check_no_token(token, is_cut, POOL, token, 9, None)

    def check_no_token(self, token, call, *given):
        with self.assertRaises(NoToken) as caught:
            call(*given)
        self.assertEqual(caught.exception.token, token)

    def test_empty_and_no_outs(self):
        self.assertEqual((shades(()), thinnest(()), is_chain((), ())), ((), None, False))
        self.assertEqual((shades(POOL[:3]), thinnest(POOL[:3])), (((0,), (1,), (2,)), None))
        self.assertRaises(NoToken, shade, (), 0)
        self.assertRaises(Unfit, threading_with, (), ())

    def test_chains(self):
        self.assertEqual([chain(MIXED, token, person) for token, person in ((0, 2), (1, 0), (4, 2), (6, 0), (6, 1))],
                         [(0,), (1,), (0, 4), (1, 5, 6), (2, 5, 6)])
        self.assertEqual([chain_count(MIXED, token, 0) for token in range(7)], [0, 1, 0, 1, 0, 1, 1])
        self.assertEqual([chain_count(MIXED, token, 2) for token in range(7)], [1, 0, 0, 0, 1, 0, 0])
        for token, person in ((0, 0), (1, 1), (4, 0), (6, 2), (6, 99)):
            self.assertRaises(NoPaper, chain, MIXED, token, person)
            self.assertEqual(chain_count(MIXED, token, person), 0)
        self.assertEqual([chain_count(TWICE, token, 0) for token in range(5)], [1, 0, 1, 1, 2])

    def test_is_chain(self):
        for row in ((1, 5, 6), (2, 5, 6), (1, 5), (1,), (0, 4), (0,)):
            self.assertIs(is_chain(MIXED, row), True)
            for thing in broken(row, [row[:-1], row[1:], (), (1, 5), (1,), (0,), (1, 3), (2, 3)]):
                self.assertIs(is_chain(MIXED, thing), False, thing)
        for thing in ((), [], None, True, 1, "", [1, 5, 6], (5, 6), (5,), (6,), (3,), (0, 3), (1, 4), (1, 5, 5),
                      (1, 6), (1, 7), (-6, 5, 6), (True, 5, 6), (False,), (1, (5,), 6), (1, None), ("1",), (1, 2),
                      (7,)):
            self.assertIs(is_chain(MIXED, thing), False, thing)
            if isinstance(thing, tuple):
                self.assertRaises(Unfit, threading_with, MIXED, thing if thing != (True, 5, 6) else (5, 6))

    def test_threading_with(self):
        for row in ((0, 2, 4), (0, 3, 4), (1, 2, 4), (1, 3, 4), (0, 3), (1,)):
            told = threading_with(TWICE, row)
            self.assertIs(is_threading(TWICE, told), True)
            self.assertEqual([told[token] for token in row], [None] + list(row[:-1]))
        self.assertEqual(threading_with(MIXED, (0, 4))[4], 0)

    def test_cuts(self):
        self.assertEqual([cut(MIXED, token, person) for token, person in ((0, 0), (1, 1), (4, 1), (6, 2), (6, 99))],
                         [(0,), (1,), (0, 4), (1, 2, 5, 6), (1, 2, 5, 6)])
        for token, person in ((0, 2), (1, 0), (4, 2), (6, 0), (6, 1)):
            self.assertRaises(NoPaper, cut, MIXED, token, person)
            self.assertIs(is_cut(MIXED, token, person, (0, 1, 2, 3, 4, 5, 6)), False)

    def test_is_cut(self):
        right = (1, 2, 5, 6)
        self.assertIs(is_cut(MIXED, 6, 2, right), True)
        for thing in broken(right, [(1, 2, 5, 6), (1, 2, 3, 5, 6)]):
            self.assertIs(is_cut(MIXED, 6, 2, thing), False, thing)
        for thing, known in (((1, 2, 3, 5, 6), True), ((0, 1, 2, 5, 6), False), ((1, 2, 4, 5, 6), False),
                             (right[1:], False), (right[:3], False), ((1, 2, 6), False), ((1, 5, 6), False),
                             (right[::-1], False),
                             (right + (6,), False), (right + (7,), False), ((-1,) + right, False), (list(right), False),
                             ((True, 2, 5, 6), False), ((), False), (None, False), ("", False), ((None,), False)):
            self.assertIs(is_cut(MIXED, 6, 2, thing), known, thing)
        self.assertIs(is_cut(MIXED, 6, 77, (0, 1, 2, 3, 4, 5, 6)), True)

    def test_apart_and_thinnest(self):
        self.assertEqual([token for token in range(7) if shades_apart(MIXED, 6, token)], [0, 4])
        self.assertIs(shades_apart(MIXED, 4, 6), True)
        self.assertEqual((thinnest(MIXED), thinnest(LONE), thinnest(POOL[:4])), ((2, 3), (1, 2), (2, 3)))

    def test_far_too_many(self):
        sight = crowd(8, 7, 5)
        last = len(sight) - 1
        self.assertEqual((shade(sight, last), thinnest(sight)), (tuple(range(8)), (8, 8)))
        self.assertEqual(sum(chain_count(sight, last, person) for person in range(8)), 8 ** 5)
        row = chain(sight, last, 6)
        self.assertIs(is_chain(sight, row), True)
        self.assertEqual(len(row), 6)
        told = threading_with(sight, row)
        self.assertIs(is_threading(sight, told), True)
        self.assertEqual([told[token] for token in row[1:]], list(row[:-1]))
        self.assertEqual((how_many(sight), len(cut(sight, last, 8))), (factorial(8) ** 5, 41))
        self.assertIs(is_threading(sight, threading_at(sight, 5)), True)


class TestRuns(TestCase):

    def setUp(self):
        self.sights = [(net, sight) for net, _, sight in some_sights(70) if how_many(sight) <= 200]

    def test_sources_and_shades(self):
        for _, sight in self.sights:
            rows = all_threadings(sight)
            told = [sorted({row[token] for row in rows} - {None}) for token in range(len(sight))]
            people = [sorted({plain.sender(sight, row, token) for row in rows}) for token in range(len(sight))]
            self.assertEqual([list(sources(sight, token)) for token in range(len(sight))], told)
            self.assertEqual([list(own) for own in shades(sight)], people)
            for token in range(len(sight)):
                self.assertEqual(shade(sight, token), tuple(people[token]))
                self.assertEqual(sure_sender(sight, token), people[token][0] if len(people[token]) == 1 else None)
                wanted = [own for own in range(len(sight)) if token in told[own]]
                self.assertEqual(list(becomes(sight, token)), wanted)
                for other in range(len(sight)):
                    self.assertIs(may_come(sight, other, token), token in told[other])
                    self.assertIs(shades_apart(sight, other, token), not set(people[other]) & set(people[token]))
            counts = [(len(people[token]), token) for token in all_outs(sight)]
            self.assertEqual(thinnest(sight), min(counts, default=None))
            for heap in heaps(sight):
                ahead = {person for token in heap for person in people[token]}
                for token in heap_outs(sight, heap):
                    self.assertLessEqual(set(people[token]), ahead)

    def test_what_comes_later_changes_nothing(self):
        for _, sight in self.sights:
            told = shades(sight)
            for moment in range(1, 12):
                early = shades(sight_at(sight, moment))
                self.assertEqual(early, told[:len(early)])

    def test_papers(self):
        for net, sight in self.sights:
            for token in range(len(sight)):
                for person in list(range(net[0])) + [net[0] + 3]:
                    self.check_papers(sight, token, person, person in shade(sight, token))

    def check_papers(self, sight, token, person, known):
        if not known:
            told = cut(sight, token, person)
            self.assertIs(is_cut(sight, token, person, told), True)
            for place in range(len(told)):
                self.assertIs(is_cut(sight, token, person, told[:place] + told[place + 1:]), False)
            self.assertRaises(NoPaper, chain, sight, token, person)
            return
        row = chain(sight, token, person)
        self.assertIs(is_chain(sight, row), True)
        self.assertEqual((row[-1], sight[row[0]][0]), (token, ("person", person)))
        told = threading_with(sight, row)
        self.assertIs(is_threading(sight, told), True)
        self.assertEqual(plain.way_of(told, token), list(row[::-1]))
        self.assertEqual(chain(sight, token, person), row)
        self.assertRaises(NoPaper, cut, sight, token, person)

    def test_all_chains(self):
        for net, sight in self.sights:
            rows = all_threadings(sight)
            for token in range(len(sight)):
                ways = {tuple(plain.way_of(row, token)[::-1]) for row in rows}
                heads = [sight[way[0]][0][1] for way in self.chains(sight, rows, token)]
                self.assertEqual([chain_count(sight, token, person) for person in range(net[0])],
                                 [heads.count(person) for person in range(net[0])])
                # Each CHAIN lies whole in some THREADING.
                self.assertEqual(ways, set(self.chains(sight, rows, token)))
                for way in ways:
                    self.assertIs(is_chain(sight, way), True)

    def chains(self, sight, rows, token):
        """All CHAINS of token, step by step."""
        if sight[token][0][0] == "person":
            return [(token,)]
        return [way + (token,) for own in sorted({row[token] for row in rows}) for way in self.chains(sight, rows, own)]

    def test_all_cuts_of_small_ones(self):
        for net, sight in [own for own in self.sights if len(own[1]) <= 7]:
            rows = all_threadings(sight)
            told = [{row[token] for row in rows} - {None} for token in range(len(sight))]
            for many in range(len(sight) + 1):
                for thing in combinations(range(len(sight)), many):
                    closed = all(told[own] <= set(thing) for own in thing)
                    for token in range(len(sight)):
                        for person in range(net[0]):
                            clear = all(sight[own][0] != ("person", person) for own in thing)
                            self.assertIs(is_cut(sight, token, person, thing), token in thing and closed and clear)

    def test_changed_chains(self):
        for _, sight in self.sights[:60]:
            rows = all_threadings(sight)
            whole = [set(self.chains(sight, rows, token)) for token in range(len(sight))]
            for token in all_outs(sight)[-1:]:
                for way in list(whole[token])[:3]:
                    for place in range(len(way)):
                        for own in range(-1, len(sight) + 1):
                            thing = way[:place] + (own,) + way[place + 1:]
                            known = 0 <= thing[-1] < len(sight) and thing in whole[thing[-1]]
                            self.assertIs(is_chain(sight, thing), known)
                            self.assertIs(is_chain(sight, listed(thing)), False)
