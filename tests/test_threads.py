"""THREADINGS: which they are, how many, numbers there and back, ways back and on; edges, errors, many SIGHTS."""

from math import factorial, prod
from unittest import TestCase

from sendershade.errors import NoToken, TooMany, Unfit
from sendershade.plans import played_out
from sendershade.sights import all_outs, ins_of, is_sight, known_tokens, lies_ahead, sight_of
from sendershade.threads import (all_threadings, first_threading, free_for, goes_on, homes, how_many, is_threading,
                                 number_of, sender_of, still_lying, threading_at, threadings_from, true_threading,
                                 way_back, way_on)
from sendershade.worlds import came_of, is_lying
from tests import plain
from tests.scenes import some_scene, some_sights
from tests.sights import LONE, MIXED, MIXED_REST, POOL, TWICE, crowd, just_5000
from tests.test_sights import PLAN, START
from tests.values import broken, listed

TRUE = (None, None, None, 2, 0, 1, 5)
FALSE = (None, None, None, 1, 0, 2, 5)


class TestTold(TestCase):

    def test_empty(self):
        self.assertEqual((how_many(()), all_threadings(()), first_threading(()), threading_at((), 0)),
                         (1, [()], (), ()))
        self.assertEqual((number_of((), ()), homes((), ()), still_lying((), (), 0)), (0, (), ()))
        self.assertIs(is_threading((), ()), True)
        self.assertEqual(true_threading(START), ())
        for number in (-1, 1):
            self.assertRaises(Unfit, threading_at, (), number)
        for call in (goes_on, way_back, sender_of, way_on, free_for):
            self.assertRaises(NoToken, call, (), (), 0)
        self.assertRaises(NoToken, threadings_from, (), 0, 0)

    def test_no_outs(self):
        sight = POOL[:3]
        self.assertEqual((how_many(sight), all_threadings(sight)), (1, [(None, None, None)]))
        self.assertEqual(still_lying(sight, (None,) * 3, 0), (0, 1, 2))

    def test_true(self):
        self.assertEqual(true_threading(played_out(START, PLAN)), TRUE)
        for rule in ((3, 0, 2, True, True), (3, 0, None, False, True), (3, 0, None, True, False)):
            self.assertRaises(Unfit, true_threading, START[:2] + ((rule, rule),) + START[3:])

    def test_all(self):
        self.assertIs(is_sight(*MIXED_REST, MIXED), True)
        self.assertEqual((how_many(MIXED), all_threadings(MIXED), first_threading(MIXED)), (2, [FALSE, TRUE], FALSE))
        self.assertEqual((how_many(LONE), all_threadings(LONE)), (1, [(None, None, 0, 1)]))
        self.assertEqual((how_many(POOL), how_many(TWICE)), (4, 4))
        self.assertEqual([row[3:] for row in all_threadings(POOL)], [(0, 1), (0, 2), (1, 0), (1, 2)])

    def test_is_threading(self):
        for thing in (TRUE, FALSE):
            self.assertIs(is_threading(MIXED, thing), True)
            for other in broken(thing, [TRUE, FALSE]):
                self.assertIs(is_threading(MIXED, other), False, other)
        for thing in (None, 0, "", (), listed(TRUE), TRUE[:6], TRUE + (None,), TRUE[:6] + (4,),
                      TRUE[:4] + (None, 1, 5), (None, None, None, 1, 0, 1, 5), (None, None, None, 0, 0, 1, 5),
                      (0,) + TRUE[1:], (None, None, None, 2, 0, True, 5), (None, None, None, 2, False, 1, 5),
                      (None, None, None, None, 0, 1, 5), (None, None, None, 2, 0, 3, 5),
                      (None, None, None, 2, 0, 9, 5)):
            self.assertIs(is_threading(MIXED, thing), False, thing)
        self.assertIs(is_threading(POOL, (None, None, None, 2, 1)), False)
        self.assertIs(is_threading(LONE, (None, None, 1, 0)), False)

    def test_numbers(self):
        self.assertEqual([number_of(MIXED, own) for own in (FALSE, TRUE)], [0, 1])
        self.assertEqual([threading_at(MIXED, number) for number in (0, 1)], [FALSE, TRUE])
        for number in (-1, 2, 10 ** 30, -10 ** 30):
            self.assertRaises(Unfit, threading_at, MIXED, number)

    def test_free(self):
        self.assertEqual([free_for(MIXED, TRUE, token) for token in (3, 5)], [(1, 2), (1,)])
        self.assertEqual([free_for(MIXED, FALSE, token) for token in (3, 5)], [(1, 2), (2,)])
        self.assertEqual(free_for(POOL, (None, None, None, 1, 0), 4), (0, 2))
        for token in (0, 1, 4, 6):
            self.assertRaises(Unfit, free_for, MIXED, TRUE, token)

    def test_ways(self):
        self.assertEqual([way_back(MIXED, TRUE, token) for token in (0, 3, 4, 6)],
                         [(0,), (3, 2), (4, 0), (6, 5, 1)])
        self.assertEqual([sender_of(MIXED, TRUE, token) for token in range(7)], [2, 0, 1, 1, 2, 0, 0])
        self.assertEqual([way_on(MIXED, TRUE, token) for token in (0, 1, 2, 6)], [(0, 4), (1, 5, 6), (2, 3), (6,)])
        self.assertEqual([goes_on(MIXED, TRUE, token) for token in range(7)], [4, 5, 3, None, None, 6, None])
        self.assertEqual((homes(MIXED, TRUE), homes(MIXED, FALSE)), (((0, 6), (1, 3)), ((0, 3), (1, 6))))

    def test_still_lying(self):
        self.assertEqual([still_lying(POOL, own, 0) for own in all_threadings(POOL)], [(2,), (1,), (2,), (0,)])
        self.assertEqual([still_lying(POOL, first_threading(POOL), house) for house in (1, 9)], [(), ()])

    def test_no_token(self):
        for token in (-1, 7, 99):
            for call in (goes_on, way_back, sender_of, way_on, free_for):
                with self.assertRaises(NoToken) as caught:
                    call(MIXED, TRUE, token)
                self.assertEqual(caught.exception.token, token)
            with self.assertRaises(NoToken) as caught:
                threadings_from(MIXED, 0, token)
            self.assertEqual(caught.exception.token, token)

    def test_from(self):
        self.assertEqual([threadings_from(MIXED, person, 6) for person in (0, 1, 2, 99)], [[TRUE], [FALSE], [], []])
        self.assertEqual([threadings_from(MIXED, 0, 1), threadings_from(MIXED, 1, 1)], [[FALSE, TRUE], []])
        for token in known_tokens(MIXED):
            self.assertRaises(Unfit, threadings_from, MIXED, 2, token)


class TestTooMany(TestCase):

    def test_the_border(self):
        sight = just_5000()
        self.assertEqual(how_many(sight), 5000)
        rows = all_threadings(sight)
        self.assertEqual((len(rows), len(set(rows)), rows), (5000, 5000, sorted(rows)))
        self.assertEqual([number_of(sight, rows[number]) for number in (0, 1, 77, 4999)], [0, 1, 77, 4999])
        self.assertEqual(len(threadings_from(sight, 0, 8)), 1000)
        more = sight + ((("house", 0), ("person", 0), 6, None, None),)
        self.assertEqual(how_many(more), 20000)
        self.assertRaises(TooMany, all_threadings, more)
        self.assertRaises(TooMany, threadings_from, more, 0, 0)

    def test_errors_in_order(self):
        sight = crowd(8, 8) + (((("person", 8)), ("house", 0), 5, None, ("own", (8, (0,), 0, 0), 0)),)
        self.assertRaises(TooMany, all_threadings, sight)
        self.assertRaises(NoToken, threadings_from, sight, 0, 17)
        self.assertRaises(Unfit, threadings_from, sight, 0, 16)
        self.assertRaises(TooMany, threadings_from, sight, 0, 15)

    def test_far_too_many(self):
        sight = crowd(8, 7, 5)
        many = factorial(8) ** 5
        self.assertEqual(how_many(sight), many)
        for number in (0, 1, 12345, 10 ** 20 + 7, many // 3, many - 1):
            threading = threading_at(sight, number)
            self.assertIs(is_threading(sight, threading), True)
            self.assertEqual(number_of(sight, threading), number)
            last = [sender_of(sight, threading, token) for token in range(len(sight) - 7, len(sight))]
            self.assertEqual(len(set(last)), 7)
        self.assertEqual(threading_at(sight, 0), first_threading(sight))
        for number in (many, -1):
            self.assertRaises(Unfit, threading_at, sight, number)
        self.assertLess(threading_at(sight, many // 2), threading_at(sight, many // 2 + 1))


class TestRuns(TestCase):

    def test_beside_going_through_all(self):
        for _, _, sight in some_sights(120):
            wanted = plain.threadings(sight)
            self.assertEqual(all_threadings(sight), wanted)
            self.assertEqual(how_many(sight), len(wanted))
            self.assertEqual(how_many(sight), prod(lies_ahead(sight, token) for token in all_outs(sight)))
            self.assertEqual(first_threading(sight), wanted[0])
            for number in range(0, len(wanted), 1 + len(wanted) // 8):
                self.assertEqual(threading_at(sight, number), wanted[number])
                self.assertEqual(number_of(sight, wanted[number]), number)
                self.check_threading(sight, wanted[number])
            for token in range(0, len(sight), 3):
                if token not in known_tokens(sight):
                    for person in range(3):
                        self.assertEqual(threadings_from(sight, person, token),
                                         [row for row in wanted if plain.sender(sight, row, token) == person])

    def check_threading(self, sight, threading):
        self.assertIs(is_threading(sight, threading), True)
        for token in range(len(sight)):
            way = plain.way_of(threading, token)
            self.assertEqual(way_back(sight, threading, token), tuple(way))
            self.assertEqual(sender_of(sight, threading, token), plain.sender(sight, threading, token))
            on = way_on(sight, threading, token)
            self.assertEqual(way_back(sight, threading, on[-1])[:len(on)], on[::-1])
            self.assertEqual([goes_on(sight, threading, own) for own in on], list(on[1:]) + [None])
            self.assertNotIn(on[-1], threading)
        for token in all_outs(sight):
            lower = [threading[own] for own in all_outs(sight) if own < token]
            free = [own for own in plain.candidates(sight, token) if own not in lower]
            self.assertEqual(free_for(sight, threading, token), tuple(free))
            self.assertEqual(len(free), lies_ahead(sight, token))
        for house in range(4):
            self.assertEqual(still_lying(sight, threading, house),
                             tuple(own for own in ins_of(sight, house) if own not in threading))
        self.assertEqual(homes(sight, threading), tuple(sorted(
            (plain.sender(sight, threading, token), token) for token, row in enumerate(sight)
            if row[1][0] == "person" and not plain.known(row))))

    def test_changed_ones(self):
        for _, _, sight in some_sights(25):
            rows = plain.threadings(sight)
            for threading in rows[:2]:
                for place in range(len(sight)):
                    for own in [None, -1, True, "0"] + list(range(len(sight) + 1)):
                        thing = threading[:place] + (own,) + threading[place + 1:]
                        self.assertIs(is_threading(sight, thing), thing in rows and own is not True, thing)

    def test_true_ones(self):
        for number in range(120):
            _, _, along = some_scene(number)
            for world in (along[3], along[-1]):
                sight, true = sight_of(world), true_threading(world)
                self.assertEqual(true, tuple(came_of(world, token) for token in range(len(sight))))
                self.assertIs(is_threading(sight, true), True)
                self.assertEqual(threading_at(sight, number_of(sight, true)), true)
                for token in range(len(sight)):
                    self.assertEqual(sender_of(sight, true, token), world[6][token][0][0][0])
                for house in range(world[0][1]):
                    wanted = [token for token in ins_of(sight, house) if is_lying(world, token)]
                    self.assertEqual(still_lying(sight, true, house), tuple(wanted))
