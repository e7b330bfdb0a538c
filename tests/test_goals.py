"""Goals and PAIRS beside going through all THREADINGS; edges, errors, wrong things."""

from itertools import combinations
from random import Random
from unittest import TestCase

from sendershade.errors import NoPaper, NoToken, Unfit
from sendershade.goals import (all_goals, can_all, end_in, goal_cut, goal_threading, goals_of, held_over, is_goal_cut,
                               is_goal_threading, is_pairs_bar, may_be_open, pairs_bar, sure_pairs, threading_with_all)
from sendershade.sights import known_tokens, lying_behind, sent_by
from sendershade.threads import how_many, is_threading
from tests import plain
from tests.calls_finds import AT, KEPT, MORE, NET, PAIR, STUCK, ZERO
from tests.scenes import some_sights
from tests.sights import AFTER, HOME, LONE, MIXED, MIXED_REST, MIXED_TRUE, ONE, POOL, THREE, TWICE, TWO, crowd
from tests.values import broken, listed


def end_of(threading, token):
    """The last one of token, what came of it, and so on."""
    later = [place for place, own in enumerate(threading) if own == token]
    return end_of(threading, later[0]) if later else token


def has(threading, pair):
    token, later = pair
    return token not in threading if later is None else threading[later] == token


def is_barred(sight, rows, pairs, thing):
    """What a BAR is, word by word; rows are all THREADINGS."""
    if thing[0] == "never":
        return not any(has(row, pairs[thing[1]]) for row in rows)
    if thing[0] == "twice":
        one, other = pairs[thing[1]], pairs[thing[2]]
        return thing[1] < thing[2] and one != other and (one[0] == other[0] or (one[1] == other[1] is not None))
    _, house, moment, numbers = thing
    tokens = [pairs[own][0] for own in numbers]
    stay = [sight[token][1] == ("house", house) and sight[token][3] is not None and sight[token][3] <= moment
            and (later is None or sight[later][2] > moment) for token, later in [pairs[own] for own in numbers]]
    return len(set(tokens)) == len(tokens) and all(stay) and len(tokens) > lying_behind(sight, house, moment)


class TestGoals(TestCase):

    def test_told(self):
        self.assertEqual([goals_of(NET, PAIR, 0), goals_of(NET, MORE, 2)], [(1, 2), (1, 3)])
        self.assertEqual(all_goals(NET, KEPT), ((0, 1, 2, 3), (0, 1, 2, 3), (0, 1, 2, 3), None))
        self.assertEqual(all_goals(*(MIXED_REST[0], MIXED)), ((0, 2), (0, 2), None))
        # What lies alone as something goes has gone to this one.
        self.assertEqual(all_goals((4, 1), LONE), (None, (3,), (3,), None))
        self.assertEqual([end_in(MIXED, MIXED_TRUE, token) for token in (1, 2, 3, 5, 6)], [6, 3, 3, 6, 6])

    def test_open(self):
        self.assertEqual([may_be_open(POOL, token) for token in range(5)], [True, True, True, False, False])
        self.assertEqual([may_be_open(LONE, token) for token in range(4)], [False, False, False, False])
        self.assertEqual([may_be_open(MIXED, token) for token in (1, 2, 3, 5, 6)], [False] * 5)
        # Not taken, or not gone on with: open; opened by the rest: not.
        bad = ((AT[0], HOME, 1, None, None), (AT[1], AFTER, 1, None, None), (AFTER, THREE, 1, None, ("opened", 1)))
        self.assertEqual([may_be_open(bad, token) for token in range(3)], [True, False, False])
        self.assertEqual(all_goals((4, 2), bad), ((0, 1, 2, 3), (3,), None, None))
        self.assertEqual(all_goals((4, 2), ()), (None,) * 4)
        # One lies there at last, but not the one that lay alone as it went.
        late = LONE + ((AT[3], HOME, 3, 5, None),)
        self.assertEqual([may_be_open(late, token) for token in (0, 1, 4)], [False, False, True])

    def test_goes_at_the_moment_at_which_another_comes(self):
        sight = ((AT[0], HOME, 1, 2, None), (HOME, ONE, 2, None, None), (AT[1], HOME, 1, 2, None))
        sight = (sight[0], sight[2], sight[1])
        self.assertEqual([may_be_open(sight, token) for token in (0, 1)], [True, True])
        self.assertEqual(all_goals((3, 1), sight), ((0, 1, 2), (0, 1, 2), None))

    def test_papers(self):
        told = goal_threading(KEPT, 2, 0)
        self.assertIs(is_goal_threading(KEPT, 2, 0, told), True)
        for goal in range(4):
            # Open in it: it may go to anybody.
            row = (None, None, 0, None, 1)
            self.assertIs(is_goal_threading(KEPT, 2, goal, row), True)
            self.assertIs(is_goal_threading(KEPT, 0, goal, row), goal == 1)
        self.assertEqual(goal_cut(PAIR, 0, 3), (0, 2, 3))
        self.assertRaises(NoPaper, goal_cut, PAIR, 0, 1)
        self.assertRaises(NoPaper, goal_threading, PAIR, 0, 0)
        self.assertRaises(NoPaper, goal_cut, KEPT, 2, 3)

    def test_wrong_threadings(self):
        right = (None, None, 1, 0)
        self.assertIs(is_goal_threading(PAIR, 0, 2, right), True)
        for thing in broken(right) + [right[::-1], (None, None, 0, 1), (None, None, 1, 1), listed(right), None, True, ""]:
            self.assertIs(is_goal_threading(PAIR, 0, 2, thing), False, thing)

    def test_wrong_cuts(self):
        right = (0, 2, 3)
        self.assertIs(is_goal_cut(PAIR, 0, 3, right), True)
        for thing in broken(right, [(0, 1, 2, 3)]) + [(0,), (0, 2), (2, 3), (0, 1), (0, 3, 2), (0, 2, 3, 4), (True, 2, 3),
                                                [0, 2, 3], (), None, "", 0]:
            self.assertIs(is_goal_cut(PAIR, 0, 3, thing), False, thing)
        self.assertIs(is_goal_cut(PAIR, 0, 3, (0, 1, 2, 3)), True)
        # All of it must be closed, none known, none open, none for goal.
        self.assertIs(is_goal_cut(MIXED, 0, 1, (1, 3, 5, 6)), True)
        for goal, thing in ((1, (0, 1, 3, 4, 5, 6)), (1, (1, 3, 4, 5, 6)), (1, (1, 3, 5)), (0, (1, 3, 5, 6)),
                            (2, (1, 3, 5, 6))):
            self.assertIs(is_goal_cut(MIXED, 0, goal, thing), False, thing)
        self.assertIs(is_goal_cut(POOL, 0, 1, (0, 3, 4)), False)

    def test_errors(self):
        for token in (-1, 0, 4, 7, 99):
            for call in (lambda: end_in(MIXED, MIXED_TRUE, token), lambda: may_be_open(MIXED, token)):
                with self.assertRaises(NoToken) as caught:
                    call()
                self.assertEqual(caught.exception.token, token)
        # Without sent_by: PERSON 2 is the rest's, 9 is none.
        for person in (2, 9):
            for call in (lambda: goals_of((3, 2), MIXED, person), lambda: goal_threading(MIXED, person, 1),
                         lambda: is_goal_threading(MIXED, person, 1, None), lambda: goal_cut(MIXED, person, 1),
                         lambda: is_goal_cut(MIXED, person, 1, None)):
                self.assertRaises(Unfit, call)


class TestPairs(TestCase):

    def test_none(self):
        for sight in (PAIR, KEPT, MIXED, ()):
            self.assertIs(can_all(sight, ()), True)
            self.assertIs(is_threading(sight, threading_with_all(sight, ())), True)
            self.assertEqual(held_over(sight, (), 0, 2), ())
            self.assertRaises(NoPaper, pairs_bar, sight, ())

    def test_held_over(self):
        self.assertEqual([held_over(KEPT, STUCK, 0, moment) for moment in (1, 2, 3, 4, 9)], [(), (0, 1), (0, 1), (1,), (1,)])
        self.assertEqual(held_over(KEPT, STUCK, 1, 2), ())
        # What was not taken, or is for a PERSON, stays over nothing.
        self.assertEqual(held_over(POOL, ((3, None), (2, None), (2, None), (2, 3)), 0, 3), (1, 2))

    def test_bars(self):
        self.assertIs(can_all(KEPT, STUCK), False)
        self.assertIs(is_pairs_bar(KEPT, STUCK, pairs_bar(KEPT, STUCK)), True)
        twice = ((0, 2), (1, 2), (0, 2), (0, None))
        for thing, known in ((("twice", 0, 1), True), (("twice", 0, 2), False), (("twice", 1, 0), False),
                             (("twice", 0, 3), True), (("twice", 1, 3), False), (("twice", 2, 3), True),
                             (("twice", 3, 3), False), (("twice", 0, 4), False), (("twice", -1, 0), False),
                             (("twice", False, 1), False), (("twice", 0), False), (("twice", 0, 1, 2), False)):
            self.assertIs(is_pairs_bar(KEPT, twice, thing), known, thing)
        # Two that stay for ever are not twice.
        self.assertIs(is_pairs_bar(KEPT, ((0, None), (1, None)), ("twice", 0, 1)), False)
        self.assertIs(can_all(POOL[:3], ((0, None), (1, None), (2, None))), True)
        never = ((0, 2), (3, 2), (0, 3), (2, None), (2, 4), (3, None))
        told = [is_pairs_bar(KEPT, never, ("never", own)) for own in range(7)]
        self.assertEqual(told, [False, True, True, False, True, False, False])

    def test_held_by_unlike_tokens(self):
        double = ((0, None), (0, None), (1, None))
        for numbers, known in (((0, 1), False), ((0, 2), True), ((1, 2), True), ((0, 1, 2), False), ((0,), False), ((), False),
                               ((2, 0), False), ((0, 3), False), ([0, 2], False), ((0, True), False), (None, False)):
            self.assertIs(is_pairs_bar(KEPT, double, ("over", 0, 2, numbers)), known, numbers)
        self.assertIs(can_all(KEPT, double[:2]), True)
        self.assertIs(can_all(KEPT, double), False)

    def test_wrong_bars(self):
        right = ("over", 0, 2, (0, 1))
        self.assertIs(is_pairs_bar(KEPT, STUCK, right), True)
        for thing in broken(right) + [("over", 0, 4, (0, 1)), ("over", 0, 1, (0, 1)), ("over", 1, 2, (0, 1)), ("never", 0),
                                ("over", 0, 2, (0,)), ("over", 0, 2, (0, 1, 2)), ("over", -1, 2, (0, 1)),
                                ("over", 0, 2), list(right), ("over", 0, None, (0, 1)), ("never",), ("twice",),
                                ("never", True), ("never", None), ("never", -1), ("never", 2), ("bar", 0), (0, 1), ((),)]:
            self.assertIs(is_pairs_bar(KEPT, STUCK, thing), False, thing)
        self.assertIs(is_pairs_bar(KEPT, STUCK, ("over", 0, 3, (0, 1))), True)

    def test_no_pairs(self):
        for pairs in (((9, None),), ((-1, None),), ((0, 9),), ((0, -1),), ((None, 0),), ((0, None), (True, None)),
                      ((0,),), ((0, 1, 2),), (None,), None, 3, "x", (0, 1)):
            for call in (lambda: held_over(KEPT, pairs, 0, 2), lambda: can_all(KEPT, pairs),
                         lambda: threading_with_all(KEPT, pairs), lambda: pairs_bar(KEPT, pairs),
                         lambda: is_pairs_bar(KEPT, pairs, None)):
                self.assertRaises(Unfit, call)
        for pairs in (((0, 4),), ((1, 4),), ((4, None),), ((1, None), (2, 0))):
            self.assertRaises(Unfit, can_all, MIXED, pairs)

    def test_sure_pairs(self):
        self.assertEqual([sure_pairs(sight) for sight in (PAIR, LONE, MIXED, KEPT, POOL[:3])],
                         [(), ((0, 2), (1, 3)), ((5, 6),), (), ()])
        # What is known is surely linked, but no such pair.
        self.assertEqual(sure_pairs(((TWO, HOME, 1, 2, MIXED[0][4]), (HOME, ONE, 2, None, MIXED[4][4]))), ())

    def test_far_too_many(self):
        sight = crowd(8, 7, 5)
        outs = [list(range(8 * step, 8 * step + 8)) for step in range(1, 5)]
        # The same places all the way, turned by one at each HOUSE; and one letter of the last ones stays.
        pairs = tuple((8 * step + place, outs[step][(place + 1) % 8]) for step in range(4) for place in range(8))
        self.assertIs(can_all(sight, pairs + ((39, None),)), True)
        told = threading_with_all(sight, pairs + ((39, None),))
        self.assertIs(is_threading(sight, told), True)
        self.assertTrue(all(has(told, pair) for pair in pairs + ((39, None),)))
        bar = pairs_bar(sight, pairs + ((39, None), (38, None)))
        self.assertIs(is_pairs_bar(sight, pairs + ((39, None), (38, None)), bar), True)
        self.assertEqual(goals_of((9, 5), sight, 7), tuple(range(9)))
        self.assertEqual(sure_pairs(sight + ((AT[3], ZERO, 30, 31, None), (ZERO, AT[1], 31, None, None))), ((47, 48),))
        told = goal_threading(sight, 7, 4)
        self.assertIs(is_goal_threading(sight, 7, 4, told), True)
        self.assertEqual((how_many(sight), all_goals((2, 5), crowd(8, 8, 5))), (40320 ** 5, ((0,), (0,))))


class TestRuns(TestCase):

    def setUp(self):
        self.sights = [(net, sight, plain.threadings(sight)) for net, _, sight in some_sights(60) if how_many(sight) <= 150]

    def test_goals(self):
        for net, sight, rows in self.sights:
            known = known_tokens(sight)
            for token in [own for own in range(len(sight)) if own not in known]:
                ends = {end_of(row, token) for row in rows}
                is_open = any(end_of(row, token) == token for row in rows) and sight[token][1][0] == "house"
                self.assertIs(may_be_open(sight, token), is_open)
                self.assertEqual({end_in(sight, row, token) for row in rows[:5]}, {end_of(row, token) for row in rows[:5]})
                self.assertLessEqual({end_in(sight, row, token) for row in rows[:5]}, ends)
            told = []
            for person in range(net[0]):
                start = sent_by(sight, person)
                if start is None:
                    told.append(None)
                    self.assertRaises(Unfit, goals_of, net, sight, person)
                    continue
                ends = [sight[end_of(row, start)][1] for row in rows]
                whole = any(spot[0] == "house" for spot in ends)
                told.append(tuple(range(net[0])) if whole else tuple(sorted({spot[1] for spot in ends})))
                self.assertEqual(goals_of(net, sight, person), told[-1])
                self.check_papers(net, sight, person, told[-1])
            self.assertEqual(all_goals(net, sight), tuple(told))

    def check_papers(self, net, sight, person, goals):
        start = sent_by(sight, person)
        for goal in range(net[0]):
            if goal in goals:
                row = goal_threading(sight, person, goal)
                self.assertIs(is_threading(sight, row), True)
                spot = sight[end_of(row, start)][1]
                self.assertTrue(spot[0] == "house" or spot[1] == goal)
                self.assertIs(is_goal_threading(sight, person, goal, row), True)
                self.assertRaises(NoPaper, goal_cut, sight, person, goal)
                continue
            told = goal_cut(sight, person, goal)
            self.assertIs(is_goal_cut(sight, person, goal, told), True)
            for place in range(len(told)):
                self.assertIs(is_goal_cut(sight, person, goal, told[:place] + told[place + 1:]), False)
            self.assertRaises(NoPaper, goal_threading, sight, person, goal)

    def test_all_cuts_of_small_ones(self):
        for net, sight, rows in [own for own in self.sights if len(own[1]) <= 7]:
            known = known_tokens(sight)
            for person in [own for own in range(net[0]) if sent_by(sight, own) is not None]:
                start = sent_by(sight, person)
                for many in range(len(sight) + 1):
                    for thing in combinations(range(len(sight)), many):
                        closed = all(later in thing for row in rows for later, own in enumerate(row) if own in thing)
                        ends = [sight[own][1] for own in thing if any(end_of(row, own) == own for row in rows)]
                        fit = closed and start in thing and not set(thing) & set(known)
                        for goal in range(net[0]):
                            clear = all(spot[0] == "person" and spot[1] != goal for spot in ends)
                            self.assertIs(is_goal_cut(sight, person, goal, thing), fit and clear)

    def test_sure_pairs(self):
        for _, sight, rows in self.sights:
            known = known_tokens(sight)
            told = [(own, later) for later, own in enumerate(rows[0])
                    if own is not None and later not in known and all(row[later] == own for row in rows)]
            self.assertEqual(sure_pairs(sight), tuple(sorted(told)))

    def some_pairs(self, chance, sight, rows):
        """PAIRS, each of which, most often, some THREADING has; sometimes all that stays as long as it may."""
        hidden = [own for own in range(len(sight)) if own not in known_tokens(sight)]
        told, long = [], chance.random() < 0.5
        for _ in range(chance.randrange(2, 6) if long else chance.randrange(5)):
            token = chance.choice([own for own in hidden if sight[own][3] is not None] or hidden) if long \
                else chance.choice(hidden)
            fit = [[place for place in hidden if row[place] == token] for row in rows]
            later = sorted({places[0] if places else len(sight) for places in fit})
            own = later[-1] if long else chance.choice(later + later + hidden + [len(sight)])
            told.append((token, None if own == len(sight) else own))
        return tuple(told)

    def test_pairs(self):
        chance, barred = Random(5), {}
        for _, sight, rows in self.sights:
            if not sight or len(known_tokens(sight)) == len(sight):
                continue
            for turn in range(10):
                pairs = self.some_pairs(chance, sight, rows)
                known = any(all(has(row, pair) for pair in pairs) for row in rows)
                self.assertIs(can_all(sight, pairs), known)
                if known:
                    told = threading_with_all(sight, pairs)
                    self.assertIs(is_threading(sight, told), True)
                    self.assertTrue(all(has(told, pair) for pair in pairs))
                    self.assertRaises(NoPaper, pairs_bar, sight, pairs)
                else:
                    bar = pairs_bar(sight, pairs)
                    barred[bar[0]] = barred.get(bar[0], 0) + 1
                    self.assertIs(is_pairs_bar(sight, pairs, bar), True)
                    self.assertRaises(NoPaper, threading_with_all, sight, pairs)
                if turn < 3:
                    self.check_bars(sight, rows, pairs, known)
        self.assertGreater(min(barred["never"], barred["twice"], barred["over"]), 5)

    def check_bars(self, sight, rows, pairs, known):
        """All that may be a BAR: none of it is one if some THREADING has all PAIRS."""
        things = [("never", own) for own in range(len(pairs))]
        things += [("twice", one, other) for one in range(len(pairs)) for other in range(len(pairs))]
        moments = sorted({row[2] for row in sight})
        things += [("over", house, moment, numbers) for house in (0, 1) for moment in moments[-4:]
                   for many in (1, 2, 3) for numbers in combinations(range(len(pairs)), many)]
        for thing in things:
            told = is_barred(sight, rows, pairs, thing)
            self.assertIs(is_pairs_bar(sight, pairs, thing), told)
            self.assertFalse(told and known)

    def test_links_of_several_houses(self):
        # Each is in one THREADING: so all are in one.
        for _, sight, rows in self.sights:
            for row in rows[:6]:
                other = rows[-1]
                pairs = [(own, later) for later, own in enumerate(row)
                         if sight[later][0] == HOME and sight[later][4] is None]
                pairs += [(own, later) for later, own in enumerate(other)
                          if sight[later][0][0] == "house" and sight[later][0] != HOME and sight[later][4] is None]
                told = threading_with_all(sight, tuple(pairs))
                self.assertTrue(all(has(told, pair) for pair in pairs))
        self.assertEqual(threading_with_all(TWICE, ((0, 3), (3, 4))), (None, None, 1, 0, 3))
