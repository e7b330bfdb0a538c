"""One house: what is refused, taken, lies, goes; edges, what raises, and the guarantees for many runs."""

from itertools import product
from random import Random
from unittest import TestCase

from sendershade.bins import (empty_bin, goes_by_wait, gone_from, house_moment, house_run, is_bin, is_careful, is_rule,
                              let_go, must_go, put_in, refuses, run_luck, senders_lying, still_wanted, taken_first,
                              taken_last)
from sendershade.errors import NoToken, Unfit
from sendershade.luck import plain_luck
from tests.model import some_rule
from tests.values import check_described

CAREFUL = (2, 1, None, True, True)
DOUBLES = (2, 1, None, True, False)
MARKS = (2, 1, None, False, True)
LOOSE = (2, 1, None, False, False)
WHOSE = (4, 0, 1, 2, 0)
BOX = ((0, 1), ((0, 1), (1, 1)), (1, 2))


class TestForms(TestCase):

    def test_rules(self):
        check_described(self, is_rule, [(2, 1, None, True, True), (1, 0, 3, False, True)],
                        [(2, 1, (), True, True), (1, 0, None, False, True)])
        for right in product((1, 9), (0, 9), (None, 1, 50), (True, False), (True, False)):
            self.assertIs(is_rule(right), True, right)
        for wrong in ((0, 0, None, True, True), (1, -1, None, True, True), (1, 0, 0, True, True),
                      (1, 0, False, True, True), (1, 0, True, True, True), (1, 0, "-", True, True),
                      (1, 0, None, 1, True), (1, 0, None, True, 0), (1, 0, None, None, True),
                      (1, None, None, True, True), (1, 0, None, True), (1, 0, None, True, True, True)):
            self.assertIs(is_rule(wrong), False, wrong)

    def test_careful(self):
        for wait, doubles, marks in product((None, 1), (True, False), (True, False)):
            self.assertIs(is_careful((1, 0, wait, doubles, marks)), wait is None and doubles and marks)

    def test_bins(self):
        check_described(self, is_bin, [BOX], [((0,), BOX[1], (1, 2))])
        for right in (((), (), ()), ((), ((3, 1),), ()), ((2, 2), ((2, 1), (0, 1), (2, 4)), (0,)),
                      ((0, 2), ((0, 1), (1, 2), (2, 2), (0, 3)), ()), ((9,), ((9, 7),), ())):
            self.assertIs(is_bin(right), True, right)
        for wrong in (((1, 0), BOX[1], ()), ((2,), BOX[1], ()), ((0, 0), BOX[1], ()), ((), ((0, 0),), ()),
                      ((), ((0, 2), (1, 1)), ()), ((), ((-1, 1),), ()), ((), ((0, 1, 1),), ()), ((), (), (-1,)),
                      ((0, 1, 1), BOX[1], ()), ((), ()), ((), (), (), ()), ((), ((0,),), ()), ((True,), ((1, 1),), ()),
                      ((1,), ((True, 1),), ()), ((0,), ((0, True),), ()), ([], (), ()), ((), [], ()), ((), (), []),
                      ((-1,), ((-1, 1),), ())):
            self.assertIs(is_bin(wrong), False, wrong)

    def test_empty(self):
        self.assertEqual([empty_bin(()), empty_bin((3, 1))], [((), (), ()), ((), (), (3, 1))])


class TestComing(TestCase):

    def test_refused(self):
        box = ((0,), ((0, 1), (1, 1)), ())
        for rule, told in ((CAREFUL, (True, True, False, False, True)), (DOUBLES, (True, True, False, False, False)),
                           (MARKS, (True, True, False, False, True)), (LOOSE, (False,) * 5)):
            for token in range(5):
                self.assertIs(refuses(rule, box, token, WHOSE), told[token], (rule, token))
                behind = put_in(rule, box, token, WHOSE, 2)
                taken = ((0, token), box[1] + ((token, 2),), ())
                self.assertEqual(behind, box if told[token] else taken)

    def test_comes_in_order(self):
        self.assertEqual(house_moment(CAREFUL, empty_bin(()), (4, 1, 4, 0), WHOSE, 5),
                         (((4, 0), ((4, 5), (0, 5)), ()), ()))
        self.assertEqual(house_moment((2, 0, None, False, False), empty_bin((1, 1)), (4, 4, 1), WHOSE, 5),
                         (((), ((4, 5), (4, 5), (1, 5)), ()), (4, 1, 4)))
        self.assertEqual(house_moment(CAREFUL, BOX, (), WHOSE, 2), (BOX, ()))

    def test_no_token(self):
        for token in (-1, 5, 60):
            for call in (lambda: refuses(LOOSE, BOX, token, WHOSE), lambda: put_in(LOOSE, BOX, token, WHOSE, 1),
                         lambda: house_moment(LOOSE, BOX, (0, token, -9), WHOSE, 1),
                         lambda: house_run(LOOSE, (), ((0,), (), (1, token), (-9,)), WHOSE),
                         lambda: run_luck(LOOSE, ((0,), (1, token), (-9,)), WHOSE, ((0,), (7,), ()))):
                with self.assertRaises(NoToken) as caught:
                    call()
                self.assertEqual(caught.exception.token, token)
        self.assertRaises(NoToken, refuses, LOOSE, empty_bin(()), 0, ())


class TestGoing(TestCase):

    def test_batch_and_keep(self):
        for lying, many in ((0, 0), (1, 0), (2, 0), (3, 2), (4, 3)):
            box = (tuple(range(lying)), tuple((own, 1) for own in range(lying)), ())
            self.assertEqual(must_go(CAREFUL, box, 9), many)
            self.assertEqual(still_wanted(CAREFUL, box), max(0, 3 - lying))
        self.assertEqual(must_go((1, 0, None, True, True), empty_bin(()), 1), 0)
        self.assertEqual(must_go((1, 0, None, True, True), BOX, 1), 2)

    def test_wait(self):
        slow = (4, 1, 3, True, True)
        self.assertEqual([must_go(slow, BOX, moment) for moment in (1, 2, 3, 4, 5)], [0, 0, 0, 2, 2])
        self.assertEqual(must_go((2, 0, 3, True, True), BOX, 2), 2)
        self.assertEqual(must_go((1, 1, 3, True, True), BOX, 3), 1)
        self.assertEqual(must_go((1, 1, 3, True, True), BOX, 4), 2)
        self.assertEqual(must_go(slow, ((), BOX[1], ()), 9), 0)
        self.assertEqual(must_go(slow, ((1,), ((0, 1), (1, 3)), ()), 4), 0)
        self.assertEqual([goes_by_wait(slow, BOX), goes_by_wait(CAREFUL, BOX), goes_by_wait(slow, empty_bin(()))],
                         [4, None, None])
        self.assertEqual(goes_by_wait(slow, ((1,), ((0, 1), (1, 3)), ())), 6)

    def test_wait_by_the_last_pair(self):
        twice = ((0, 0), ((0, 1), (0, 3)), ())
        self.assertEqual([must_go((9, 0, 2, False, False), twice, moment) for moment in (3, 4, 5)], [0, 0, 2])
        self.assertEqual(goes_by_wait((9, 0, 2, False, False), twice), 5)

    def test_let_go(self):
        box = ((3, 1, 2), ((0, 1), (3, 1), (1, 2), (2, 2)), (8, 1, 5))
        self.assertEqual(let_go((2, 1, None, True, True), box, 2), (((3,), box[1], (5,)), (2, 1)))
        self.assertEqual(let_go((1, 0, None, True, True), box, 2), (((), box[1], ()), (2, 1, 3)))
        self.assertEqual(let_go((3, 1, None, True, True), box, 2), (box, ()))
        self.assertEqual(let_go((3, 1, 1, True, True), box, 2), (((), box[1], ()), (2, 1, 3)))
        self.assertEqual(let_go((1, 0, None, True, True), (box[0], box[1], (2,)), 2), (((), box[1], ()), (2, 3, 1)))

    def test_more_than_sixty_lie(self):
        whose = tuple(range(70))
        told = house_run((1, 0, None, True, True), (69,), (whose,), whose)
        self.assertEqual(told[0][1], (69,) + tuple(range(69)))
        self.assertEqual(run_luck((1, 0, None, True, True), (whose,), whose, (told[0][1],)), (69,) + (0,) * 69)
        self.assertEqual(len(house_moment((99, 0, None, False, False), empty_bin(()), (0,) * 80, (0,), 1)[0][0]), 80)


class TestAsked(TestCase):

    def test_taken(self):
        box = ((0, 0), ((0, 1), (1, 2), (0, 4)), ())
        self.assertEqual((taken_first(box, 0), taken_last(box, 0), taken_first(box, 1), taken_last(box, 1)),
                         (1, 4, 2, 2))
        for token in (-1, 2, 99):
            for call in (taken_first, taken_last):
                with self.assertRaises(NoToken) as caught:
                    call(box, token)
                self.assertEqual(caught.exception.token, token)

    def test_gone(self):
        self.assertEqual(gone_from(((2, 1), ((3, 1), (2, 1), (0, 2), (1, 2)), ())), (3, 0))
        self.assertEqual([gone_from(BOX), gone_from(empty_bin((1,)))], [(), ()])

    def test_senders(self):
        self.assertEqual(senders_lying(BOX, WHOSE), (0, 4))
        self.assertEqual(senders_lying(((1, 4, 3), ((1, 1), (4, 1), (3, 1)), ()), WHOSE), (0, 2))
        self.assertEqual(senders_lying(empty_bin(()), WHOSE), ())


class TestRuns(TestCase):

    def test_no_rows(self):
        self.assertEqual(house_run(CAREFUL, (1,), (), WHOSE), [])
        self.assertEqual(run_luck(CAREFUL, (), WHOSE, ()), ())

    def test_run_luck(self):
        rows = ((0, 1), (2, 3), ())
        self.assertEqual(run_luck(CAREFUL, rows, WHOSE, ((), (3, 1, 2), ())), (3, 1, 1))
        for goes in (((), (3, 1), ()), ((), (3, 1, 2, 0), ()), ((), (3, 1, 2, 2), ()), ((), (3, 1, 1), ()),
                     ((), (3, 1, 4), ()), ((), (3, 1, -1), ()), ((), (), (3, 1, 2)), ((0,), (3, 1, 2), ()),
                     ((), (), ()), ((),)):
            self.assertRaises(Unfit, run_luck, CAREFUL, rows, WHOSE, goes)

    def test_of_many_runs(self):
        chance = Random(7)
        for _ in range(300):
            rule, whose = some_rule(chance), tuple(chance.randrange(4) for _ in range(6))
            rows = tuple(tuple(chance.randrange(6) for _ in range(chance.randrange(4))) for _ in range(6))
            luck = tuple(chance.randrange(5) for _ in range(9))
            told = house_run(rule, luck, rows, whose)
            self.check_steps(rule, luck, rows, whose, told)
            self.check_guarantees(rule, whose, told, house_run(rule, (), rows, whose))
            if rule[2] is None and rule[3]:
                self.check_run_luck(rule, rows, whose, told)

    def check_steps(self, rule, luck, rows, whose, told):
        box = empty_bin(luck)
        self.assertEqual(len(told), len(rows))
        for moment, (comes, (behind, gone)) in enumerate(zip(rows, told), 1):
            self.assertEqual(house_moment(rule, box, comes, whose, moment), (behind, gone))
            for token in comes:
                box = put_in(rule, box, token, whose, moment)
            self.assertEqual(len(gone), must_go(rule, box, moment))
            self.assertEqual(let_go(rule, box, moment), (behind, gone))
            self.assertIs(is_bin(behind), True)
            if rule[3]:
                self.assertEqual(sorted(gone_from(behind) + behind[0]), sorted(token for token, _ in behind[1]))
            box = behind

    def check_guarantees(self, rule, whose, told, other):
        batch, keep, wait, _, marks = rule
        for (box, gone), (other_box, other_gone) in zip(told, other):
            if wait is None:
                self.assertEqual((box[1], len(gone)), (other_box[1], len(other_gone)))
                self.assertLess(len(box[0]), batch + keep)
                self.assertEqual(still_wanted(rule, box), batch + keep - len(box[0]))
                if gone:
                    self.assertEqual(len(box[0]), keep)
            if marks:
                senders = [whose[token] for token, _ in box[1]]
                self.assertEqual(len(senders), len(set(senders)))

    def check_run_luck(self, rule, rows, whose, told):
        goes = tuple(gone for _, gone in told)
        luck = run_luck(rule, rows, whose, goes)
        again = house_run(rule, luck, rows, whose)
        self.assertEqual([gone for _, gone in again], list(goes))
        self.assertEqual(again[-1][0][2], ())
        plain, left = (), luck
        for (box, _), gone in zip(again, goes):
            plain += plain_luck(left, len(gone) + len(box[0]), len(gone))
            left = left[len(gone):]
        self.assertEqual(luck, plain)

    def test_runs_by_wait(self):
        chance = Random(8)
        for _ in range(200):
            rule = (chance.randrange(1, 5), chance.randrange(3), chance.randrange(1, 5), True, True)
            come = (tuple(range(chance.randrange(4))), (), (3,), (), (), (), (), (), (), ())
            told = house_run(rule, (), come, (0, 1, 2, 3))
            for moment, (box, _) in enumerate(told, 1):
                by = goes_by_wait(rule, box)
                if moment < 3 or by is None:
                    continue
                self.assertTrue(all(behind[0] == () for behind, _ in told[by - 1:]))
                self.assertEqual([behind for behind, _ in told[moment:by - 1]], [box] * (by - 1 - moment))
