"""Rounds: suspects beside all THREADINGS of all SIGHTS, LOTS beside all sets of few PERSONS; edges, errors, wrong things."""

from itertools import combinations, product
from random import Random
from unittest import TestCase

from sendershade.alike import all_alike
from sendershade.errors import NoPaper, Unfit
from sendershade.goals import goals_of
from sendershade.plans import played_out
from sendershade.rounds import (clearing, found_at, friend_lots, goal_sets, is_clearing, is_only, is_quick,
                                is_round_paper, least_rounds, quick_sets, round_paper, suspects, suspects_of, sure_of,
                                writes_in)
from sendershade.sights import sent_by, sight_of
from sendershade.threads import all_threadings, how_many, way_on
from tests.calls_finds import AT, KEPT, MORE, NET, PAIR, SHOWN, ZERO
from tests.model import Model, some_letter
from tests.scenes import mixing_choice
from tests.sights import LONE, POOL
from tests.values import broken, listed

PAPER, CLEARING = ((None, None, 0, 1), (None, None, 1, 0)), (1, (0, 2, 3))


def some_rounds(number):
    """A NET, some SIGHTS of it in which all PERSONS but the last one are steady, and the WORLDS and PLANS behind them."""
    chance = Random(number)
    net = (chance.randrange(3, 6), chance.randrange(1, 3))
    friend, told, worlds = chance.randrange(net[0]), [], []
    for _ in range(chance.randrange(4)):
        rest = ((net[0] - 1,), ())
        wishes = tuple(None if own in rest[0] or chance.random() < 0.2 else (1, some_letter(chance, net, own))
                       for own in range(net[0]))
        if wishes[0] is not None:
            # PERSON 0 writes to one friend.
            letter = wishes[0][1]
            wishes = ((1, letter[:2] + (friend, letter[3])),) + wishes[1:]
        rules = tuple((chance.randrange(1, 3), chance.randrange(2), None, True, True) for _ in range(net[1]))
        start = (net, rest, rules, wishes, 0, tuple(((), (), (chance.randrange(9),)) for _ in range(net[1])), (), ())
        model, plan = Model(start), []
        for _ in range(4):
            plan.append(mixing_choice(chance, model.world()))
            model.play(plan[-1])
        told.append(sight_of(model.world()))
        worlds.append((start, tuple(plan)))
    return net, tuple(told), friend, worlds


def lots(people, sets, many):
    """All LOTS of at most many."""
    return [lot for size in range(min(many, people) + 1) for lot in combinations(range(people), size)
            if all(set(lot) & set(own) for own in sets)]


class TestSuspects(TestCase):

    def test_told(self):
        sights = (PAIR, MORE, LONE)
        self.assertEqual([writes_in(sights, person) for person in range(5)], [(0, 1), (0, 2), (1, 2), (), ()])
        self.assertEqual(goal_sets(NET, sights, 1), ((1, 2), (3,)))
        self.assertEqual([suspects(NET, sights, person) for person in range(4)], [(1,), (), (3,), (0, 1, 2, 3)])
        self.assertEqual([found_at(NET, sights, person) for person in range(4)], [1, None, 2, None])
        self.assertEqual(found_at(NET, (KEPT, PAIR, LONE, MORE), 0), 3)
        # A SIGHT in which nobody is left out tells nothing; one in which PERSON does not write, too.
        self.assertEqual((suspects(NET, (POOL,), 0), goal_sets(NET, (POOL, KEPT), 0)), ((0, 1, 2, 3), ((0, 1, 2, 3),) * 2))
        self.assertEqual(found_at(NET, (LONE, KEPT, LONE), 1), 0)

    def test_no_sights(self):
        self.assertEqual((writes_in((), 0), goal_sets(NET, (), 0), suspects(NET, (), 0), found_at(NET, (), 0)),
                         ((), (), (0, 1, 2, 3), None))
        self.assertEqual(round_paper(NET, (), 0, 3), ())
        self.assertIs(is_round_paper(NET, (), 0, 3, ()), True)
        self.assertRaises(NoPaper, clearing, NET, (), 0, 3)
        self.assertEqual((suspects((1, 1), (), 0), found_at((1, 1), (), 0)), ((0,), None))

    def test_only_one_person(self):
        sight = ((AT[0], ZERO, 1, 2, None), (ZERO, AT[0], 2, None, None))
        self.assertEqual((found_at((1, 1), (sight,), 0), found_at((1, 1), ((), sight), 0)), (0, 0))

    def test_writes_in_none(self):
        for friend in range(4):
            self.assertEqual(round_paper(NET, (PAIR, PAIR), 3, friend), ())
            self.assertIs(is_round_paper(NET, (PAIR, PAIR), 3, friend, ()), True)
            self.assertIs(is_round_paper(NET, (PAIR, PAIR), 3, friend, ((None, None, 0, 1),)), False)
            self.assertRaises(NoPaper, clearing, NET, (PAIR, PAIR), 3, friend)
            self.assertIs(is_clearing(NET, (PAIR, PAIR), 3, friend, (0, (0, 2, 3))), False)

    def test_papers(self):
        sights = (PAIR, MORE)
        self.assertEqual(round_paper(NET, sights, 0, 1), PAPER)
        self.assertIs(is_round_paper(NET, sights, 0, 1, PAPER), True)
        self.assertIs(is_round_paper(NET, sights, 0, 2, PAPER), False)
        for friend in (0, 2, 3):
            self.assertRaises(NoPaper, round_paper, NET, sights, 0, friend)
            self.assertIs(is_clearing(NET, sights, 0, friend, clearing(NET, sights, 0, friend)), True)
        self.assertRaises(NoPaper, clearing, NET, sights, 0, 1)

    def test_wrong_papers(self):
        sights = (PAIR, MORE)
        for thing in broken(PAPER) + [PAPER[::-1], PAPER[:1], PAPER + PAPER[:1], listed(PAPER), (), None, True, "", 0]:
            self.assertIs(is_round_paper(NET, sights, 0, 1, thing), False, thing)
        self.assertIs(is_clearing(NET, sights, 0, 2, CLEARING), True)
        for thing in broken(CLEARING, [(1, (0, 1, 2, 3))]) + [(0, (0, 2, 3)), (2, (0, 2, 3)), (-1, (0, 2, 3)), (True, (0, 2, 3)),
                                                       (1, (0, 2)), CLEARING[::-1], CLEARING + (0,), (1,), None, (), ""]:
            self.assertIs(is_clearing(NET, sights, 0, 2, thing), False, thing)
        self.assertIs(is_clearing(NET, sights, 0, 3, (0, (0, 2, 3))), True)
        self.assertIs(is_clearing(NET, sights, 0, 3, CLEARING), False)
        self.assertIs(is_clearing(NET, (MORE, PAIR, MORE), 0, 2, (2, (0, 2, 3))), True)

    def test_runs(self):
        asked = {True: 0, False: 0}
        for number in range(140):
            net, sights, friend, _ = some_rounds(number)
            if any(how_many(sight) > 100 for sight in sights):
                continue
            for person in range(net[0] - 1):
                wanted, writing = set(range(net[0])), []
                for place, sight in enumerate(sights):
                    start = sent_by(sight, person)
                    if start is None:
                        continue
                    writing.append(place)
                    ends = {sight[way_on(sight, row, start)[-1]][1] for row in all_threadings(sight)}
                    if not any(spot[0] == "house" for spot in ends):
                        wanted &= {spot[1] for spot in ends}
                self.assertEqual(writes_in(sights, person), tuple(writing))
                self.assertEqual(goal_sets(net, sights, person), tuple(goals_of(net, sights[own], person) for own in writing))
                self.assertEqual(suspects(net, sights, person), tuple(sorted(wanted)))
                if person == 0:
                    self.assertIn(friend, wanted)
                left = [len(suspects(net, sights[:place + 1], person)) for place in range(len(sights))]
                self.assertEqual(found_at(net, sights, person), left.index(1) if 1 in left else None)
                for other in range(net[0]):
                    asked[other in wanted] += 1
                    self.check_papers(net, sights, person, other, other in wanted)
        self.assertGreater(min(asked.values()), 100)

    def check_papers(self, net, sights, person, friend, known):
        if known:
            told = round_paper(net, sights, person, friend)
            self.assertIs(is_round_paper(net, sights, person, friend, told), True)
            self.assertRaises(NoPaper, clearing, net, sights, person, friend)
            return
        told = clearing(net, sights, person, friend)
        self.assertIs(is_clearing(net, sights, person, friend, told), True)
        self.assertRaises(NoPaper, round_paper, net, sights, person, friend)

    def test_worlds_that_give_the_same_views(self):
        # Each round is a world by itself: friends are those to whom PERSON 0 writes in worlds with the same VIEWS.
        for number in range(40):
            net, sights, _, worlds = some_rounds(number)
            if any(how_many(sight) > 24 for sight in sights):
                continue
            told = set(range(net[0]))
            for start, plan in worlds:
                here = set()
                for world in all_alike(start, plan):
                    covers = [cover for cover, _, _ in played_out(world, plan)[6]]
                    for letter in [letter for letter, place in covers if place == 0 and letter[0] == 0]:
                        # What has not gone to the end may have any other goal in a WORLD alike.
                        here |= {letter[2]} if (letter, len(letter[1])) in covers else set(range(net[0]))
                told &= here or told
            self.assertEqual(suspects(net, sights, 0), tuple(sorted(told)))


class TestLots(TestCase):

    def test_no_sets(self):
        self.assertEqual(suspects_of(3, ()), (0, 1, 2))
        self.assertEqual((friend_lots(3, (), 0), friend_lots(3, (), 9), sure_of(3, (), 2)), ([()], [()], ()))
        self.assertIs(is_only(3, (), 0, ()), True)
        self.assertIs(is_only(3, (), 1, ()), False)

    def test_none(self):
        self.assertEqual(friend_lots(5, SHOWN, 1), [])
        self.assertRaises(NoPaper, sure_of, 5, SHOWN, 1)
        self.assertRaises(NoPaper, sure_of, 5, ((0,),), 0)
        self.assertIs(is_only(5, SHOWN, 1, (3,)), False)

    def test_runs(self):
        for number in range(150):
            chance = Random(number)
            people = chance.randrange(1, 6)
            sets = tuple(tuple(sorted(chance.sample(range(people), chance.randrange(1, people + 1))))
                         for _ in range(chance.randrange(6)))
            self.assertEqual(suspects_of(people, sets), tuple(own for own in range(people) if all(own in row for row in sets)))
            for many in range(people + 2):
                told = lots(people, sets, many)
                least = sorted(lot for lot in told if not any(set(other) < set(lot) for other in told))
                self.assertEqual(friend_lots(people, sets, many), least)
                if told:
                    self.assertEqual(sure_of(people, sets, many),
                                     tuple(own for own in range(people) if all(own in lot for lot in told)))
                else:
                    self.assertRaises(NoPaper, sure_of, people, sets, many)
                for thing in lots(people, (), people):
                    self.assertIs(is_only(people, sets, many, thing), told == [thing])

    def test_wrong_lots(self):
        self.assertIs(is_only(5, SHOWN, 2, (1, 3)), True)
        for thing in broken((1, 3)) + [(3, 1), (1, 3, 4), (1, 1, 3), [1, 3], (True, 3), (1,), (), None, "", 1, (1, 5), (-4, 3)]:
            self.assertIs(is_only(5, SHOWN, 2, thing), False, thing)

    def test_eight_people(self):
        sets = tuple((own, (own + 1) % 8) if own < 7 else (0, 7) for own in range(8)) + ((0, 2, 4, 6), (1, 3, 5, 7))
        self.assertEqual(len(friend_lots(8, sets, 8)), len([lot for lot in lots(8, sets, 8) if not any(
            set(other) < set(lot) for other in lots(8, sets, 8))]))


class TestQuick(TestCase):

    def test_beside_all_sets(self):
        for people in range(1, 6):
            for each in range(1, people + 1):
                rows = list(combinations(range(people), each))
                fit = [many for many in range(5) if any(
                    len(suspects_of(people, sets)) == 1 for sets in product(rows, repeat=many))]
                if fit:
                    self.assertEqual(least_rounds(people, each), fit[0])
                else:
                    self.assertRaises(NoPaper, least_rounds, people, each)

    def test_quick_sets(self):
        for people in range(1, 9):
            for each in range(1, people + 3):
                for friend in range(people):
                    if each > people:
                        self.assertRaises(Unfit, quick_sets, people, friend, each)
                    elif each == people > 1:
                        self.assertRaises(NoPaper, quick_sets, people, friend, each)
                    else:
                        told = quick_sets(people, friend, each)
                        self.assertEqual(len(told), least_rounds(people, each))
                        self.assertIs(is_quick(people, friend, each, told), True)
                        self.assertEqual({len(own) for own in told} - {each}, set())
                        self.assertEqual(suspects_of(people, told), (friend,))
                        self.assertIs(is_quick(people, (friend + 1) % people, each, told), people == 1)
                        self.assertIs(is_quick(people, friend, each, told[:-1]), people == 1)

    def test_only_one(self):
        self.assertEqual((least_rounds(1, 1), quick_sets(1, 0, 1)), (0, ()))
        for thing, known in (((), True), (((0,),), True), (((0,), (0,)), True), (((1,),), False)):
            self.assertIs(is_quick(1, 0, 1, thing), known)

    def test_wrong_sets(self):
        right = ((0, 1), (0, 2))
        self.assertIs(is_quick(5, 0, 2, right), True)
        self.assertIs(is_quick(5, 0, 2, right + ((0, 4),)), True)
        for thing in broken(right, [right + ((0, 4),)]) + [((0, 1), (0, 1)), ((0, 1), (2, 3)), ((1, 0), (0, 2)), ((0, 1, 2), (0, 3)),
                                                    ((0,), (0,)), ((0, 5), (0, 1)), listed(right), (), None, "", 3]:
            self.assertIs(is_quick(5, 0, 2, thing), False, thing)
        for thing in ((), ((0, 1, 2),)):
            self.assertIs(is_quick(3, 0, 3, thing), False)
