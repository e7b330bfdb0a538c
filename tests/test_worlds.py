"""Worlds: each row of the table of a moment, what suits, what raises, and many runs beside a model."""

from unittest import TestCase

from sendershade.errors import NoToken, Unfit
from sendershade.worlds import (begun_world, came_of, how_full, in_reach, is_begun, is_choice, is_lying, is_wishes,
                                new_on_roads, next_world, road_token, spot_for, taken_at, went_on)
from tests.model import some_run, spot_of
from tests.values import check_described, listed

CALM = (2, 0, None, True, True)
OPEN = (1, 0, None, True, True)
NET, REST = (3, 2), ((2,), (1,))
HIGH, LOW = (0, (0, 1), 2, 7), (1, (0,), 0, 9)
WISHES = ((1, HIGH), (1, LOW), None)
START = (NET, REST, (CALM, OPEN), WISHES, 0, (((), (), (1,)), ((), (), (5,))), (), ())
IDLE = ((), ())


def lone_start(rule, many=1, luck=(), wishes=None):
    """A WORLD at its beginning: many PERSONS, the last one the rest's, one steady HOUSE."""
    net, rest = (many + 1, 1), ((many,), ())
    wishes = wishes or tuple((1, (own, (0,), own, own)) for own in range(many))
    return begun_world(net, rest, (rule,), wishes + (None,), (luck,))


class TestForms(TestCase):

    def test_wishes(self):
        check_described(self, lambda thing: is_wishes(NET, REST, thing), [WISHES],
                        [(None, (1, LOW), None), ((1, HIGH), None, None)])
        for right in ((None, None, None), ((9, HIGH), None, None)):
            self.assertIs(is_wishes(NET, REST, right), True, right)
        for wrong in ((None, None), (None,) * 4, (None, (1, HIGH), None), (None, None, (1, (2, (0,), 0, 1))),
                      ((0, HIGH), None, None), ((1, (0, (2,), 2, 7)), None, None), ((1, HIGH, 0), None, None),
                      ((None, HIGH), None, None), ((1, None), None, None), ((1, (0, (0,), 3, 7)), None, None), None):
            self.assertIs(is_wishes(NET, REST, wrong), False, wrong)

    def test_begun(self):
        for wrong in ((5, ()), (3, WISHES[:2] + (0,))):
            self.assertIs(is_begun(START[:wrong[0]] + (wrong[1],) + START[wrong[0] + 1:]), False)
        spared = []
        for house, place, rules in ((0, 2, ((2, 0, (), True, True), OPEN)), (1, 2, (CALM, (1, 0, (), True, True)))):
            spared.append(START[:2] + (rules,) + START[3:])
        for wishes in ((None, WISHES[1], None), (WISHES[0], None, None)):
            spared.append(START[:3] + (wishes,) + START[4:])
        check_described(self, is_begun, [START], spared)

    def test_not_begun(self):
        def with_part(place, part):
            return START[:place] + (part,) + START[place + 1:]

        for place, part in ((0, (2, 2)), (0, (3, 3)), (0, (3, 0)), (1, ((3,), ())), (1, ((1,), ())), (2, (CALM,)),
                            (2, (CALM, OPEN, OPEN)), (2, (CALM, (0, 0, None, True, True))), (3, WISHES[:2]),
                            (4, 1), (4, False), (5, START[5][:1]), (5, START[5] + START[5][:1]),
                            (5, (((0,), ((0, 1),), ()), START[5][1])), (5, (((), ((0, 1),), ()), START[5][1])),
                            (6, (((HIGH, 0), ("person", 0), 1),)), (7, ((1, 0),))):
            self.assertIs(is_begun(with_part(place, part)), False, (place, part))
        self.assertIs(is_begun(next_world(START, IDLE)), False)
        self.assertIs(is_begun(with_part(1, ((), ()))), True)
        self.assertIs(is_begun(lone_start(CALM)), True)

    def test_choices(self):
        world = next_world(START, IDLE)
        right = (((2, (0,), 1, 5),), (0, 1))
        check_described(self, lambda thing: is_choice(world, thing), [right],
                        [(right[0], (1, 1)), (right[0], (0, 0)), (right[0], ())])
        for fit in (IDLE, ((), (1, 0, 1)), (((2, (1,), 2, 0),) * 3, ())):
            self.assertIs(is_choice(world, fit), True, fit)
        for unfit in (((), (2,)), ((), (-1,)), ((HIGH,), ()), (((2, (2,), 1, 5),), ()), ((), ()) + ((),), ((),),
                      (None, ()), ((), None), ((), (True,)), ((), (0, None)), (((2, (0,), 1),), ())):
            self.assertIs(is_choice(world, unfit), False, unfit)
            self.assertRaises(Unfit, next_world, world, unfit)
            self.assertRaises(Unfit, new_on_roads, world, unfit)
        for lists in ([(), ()], ([], ()), ((), []), ((), [0]), ([(2, (0,), 1, 5)], ()), (([2, (0,), 1, 5],), ())):
            self.assertIs(is_choice(world, lists), False, lists)
            self.assertEqual(next_world(world, lists)[4], 2)

    def test_begun_world(self):
        self.assertEqual(begun_world(NET, REST, (CALM, OPEN), WISHES, ((1,), (5,))), START)
        self.assertEqual(begun_world(*listed((NET, REST, (CALM, OPEN), WISHES, ((1,), (5,))))), START)


class TestUnfit(TestCase):

    def test_whatever_it_is(self):
        deep = ()
        for _ in range(2000):
            deep = [deep]
        wrong = (None, 0, "", "ab", (), ((),), ((), (0,)), (((2, (0,), 1, 5), 3), ()), [[], [[]]], [[[]], []],
                 True, ((), "0"), ("", ()), deep, (deep, ()), {}, object())
        for place, choice in enumerate(wrong):
            with self.subTest(place):
                self.assertRaises(Unfit, next_world, START, choice)
                self.assertRaises(Unfit, new_on_roads, START, choice)

    def test_a_house_of_the_rest(self):
        world = next_world(next_world(START, (((2, (1,), 0, 3),), ())), IDLE)
        self.assertEqual([spot_for(world, token) for token in range(4)],
                         [("house", 1), ("person", 0), ("house", 0), ("house", 0)])
        self.assertEqual(in_reach(world), (1, 2, 3))
        self.assertIs(is_choice(world, ((), (0,))), False)
        self.assertRaises(Unfit, next_world, world, ((), (0,)))

    def test_only_tokens_ahead_of_the_moment(self):
        self.assertRaises(Unfit, next_world, START, ((), (0,)))
        self.assertRaises(Unfit, next_world, START, (((2, (0,), 0, 3),), (0,)))
        self.assertEqual(in_reach(START), ())


class TestMoment(TestCase):

    def test_the_rest_sends_first(self):
        world = next_world(START, (((2, (0,), 0, 3), (2, (1,), 1, 3)), ()))
        self.assertEqual(world[4], 1)
        self.assertEqual([row[0] for row in world[6]], [((2, (0,), 0, 3), 0), ((2, (1,), 1, 3), 0),
                                                        ((2, (1,), 1, 3), 1), (HIGH, 0), (LOW, 0)])
        self.assertEqual([row[1:] for row in world[6]], [(("person", 2), 1), (("person", 2), 1), (("house", 1), 1),
                                                         (("person", 0), 1), (("person", 1), 1)])

    def test_wishes_at_their_moment(self):
        start = lone_start(OPEN, 3, (), ((2, (0, (0,), 0, 0)), (1, (1, (0,), 0, 0)), (2, (2, (0,), 0, 0))))
        one = next_world(start, IDLE)
        two = next_world(one, IDLE)
        self.assertEqual([[row[0][0][0] for row in world[6]] for world in (one, two, next_world(two, IDLE))],
                         [[1], [1, 0, 2], [1, 0, 2]])

    def test_a_letter_through_the_rests_houses_alone(self):
        start = begun_world((2, 3), ((1,), (0, 2)), (OPEN,) * 3, ((1, (0, (0, 2), 1, 8)), None), ((),) * 3)
        world = next_world(start, IDLE)
        letter = (0, (0, 2), 1, 8)
        self.assertEqual(world[6], (((letter, 0), ("person", 0), 1), ((letter, 1), ("house", 0), 1),
                                    ((letter, 2), ("house", 2), 1)))
        self.assertEqual((in_reach(world), how_full(world), world[5]), ((), (0, 0, 0), start[5]))

    def test_on_the_roads_already(self):
        letter = (2, (1,), 0, 3)
        one = next_world(START, ((letter, letter), ()))
        self.assertEqual(one[7], ((1, 0),))
        self.assertEqual(new_on_roads(one, ((letter,), ())), ((), ((2, 0),)))
        two = next_world(one, ((letter, (2, (0,), 0, 3), letter), ()))
        self.assertEqual(two[7], ((1, 0), (2, 0), (2, 0)))
        self.assertEqual(len(two[6]), len(one[6]) + 1)

    def test_comes_in_order(self):
        start = lone_start((3, 0, None, True, True), 3, (2, 0))
        one = next_world(start, IDLE)
        two = next_world(one, ((), (2, 0)))
        self.assertEqual(two[5], (((2, 0), ((2, 2), (0, 2)), (2, 0)),))
        self.assertEqual(how_full(two), (2,))
        three = next_world(two, ((), (0, 2, 1, 1)))
        self.assertEqual(three[5], (((), ((2, 2), (0, 2), (1, 3)), ()),))
        self.assertEqual([row[0][0][0] for row in three[6][3:]], [1, 2, 0])
        self.assertEqual(new_on_roads(two, ((), (0, 2, 1, 1)))[0], three[6][3:])

    def test_a_token_twice(self):
        for doubles, marks, taken, again in ((True, True, 1, ()), (True, False, 1, ()), (False, True, 1, ()),
                                             (False, False, 2, ((2, 1),))):
            start = lone_start((1, 0, None, doubles, marks))
            world = next_world(next_world(start, IDLE), ((), (0, 0)))
            self.assertEqual(world[5][0][1], ((0, 2),) * taken)
            self.assertEqual((world[7], taken_at(world, 0)), (again, (2,) * taken))
            later = next_world(world, ((), (0,)))
            self.assertEqual(taken_at(later, 0), (2, 2, 3) if taken == 2 else (2,))

    def test_marks(self):
        one, two = (1, (0,), 0, 1), (1, (0,), 0, 2)
        for marks, lying in ((True, (0,)), (False, (0, 1))):
            world = next_world(lone_start((3, 0, None, True, marks), 1, (), (None,)), ((one, two), ()))
            self.assertEqual(next_world(world, ((), (0, 1)))[5][0][0], lying)

    def test_for_a_person_nothing_comes(self):
        world = next_world(next_world(lone_start(OPEN), IDLE), ((), (0,)))
        self.assertEqual(spot_for(world, 1), ("person", 0))
        self.assertEqual(next_world(world, ((), (1, 1)))[5:], next_world(world, IDLE)[5:])

    def test_houses_ascending(self):
        start = begun_world((2, 2), ((), ()), (OPEN, OPEN), ((1, (0, (1,), 0, 0)), (1, (1, (0,), 1, 1))), ((), ()))
        world = next_world(next_world(start, IDLE), ((), (0, 1)))
        self.assertEqual([row[1] for row in world[6][2:]], [("house", 0), ("house", 1)])

    def test_by_wait(self):
        start = lone_start((5, 0, 2, True, True), 2, (1,))
        one = next_world(next_world(start, IDLE), ((), (0, 1)))
        two = next_world(one, IDLE)
        three = next_world(two, IDLE)
        self.assertEqual([how_full(world) for world in (one, two, three)], [(2,), (2,), (0,)])
        self.assertEqual([row[0][0][0] for row in three[6][2:]], [1, 0])

    def test_opened_by_the_rest_behind_a_house(self):
        world = next_world(START, IDLE)
        self.assertEqual(new_on_roads(world, ((), (0, 1)))[0],
                         (((LOW, 1), ("house", 0), 2), ((HIGH, 1), ("house", 0), 2), ((HIGH, 2), ("house", 1), 2)))


class TestAsked(TestCase):

    def setUp(self):
        self.world = next_world(next_world(START, IDLE), ((), (0, 1)))

    def test_tokens(self):
        self.assertEqual([road_token(self.world, cover) for cover in ((HIGH, 0), (HIGH, 2), (LOW, 1), (LOW, 0))],
                         [0, 4, 2, 1])
        self.assertIsNone(road_token(START, (HIGH, 0)))
        self.assertIsNone(road_token(self.world, ((0, (0, 1), 2, 8), 0)))
        self.assertEqual([came_of(self.world, token) for token in range(5)], [None, None, 1, 0, 3])
        self.assertEqual([went_on(self.world, token) for token in range(5)], [3, 2, None, 4, None])
        self.assertIsNone(went_on(next_world(START, IDLE), 0))
        self.assertEqual([taken_at(self.world, token) for token in range(5)], [(2,), (2,), (), (), ()])

    def test_lying(self):
        half = next_world(next_world(START, IDLE), ((), (1,)))
        self.assertEqual([is_lying(half, token) for token in (0, 1)], [False, True])
        self.assertEqual([is_lying(self.world, token) for token in range(5)], [False] * 5)
        self.assertEqual([how_full(half), how_full(self.world), how_full(START)], [(1, 0), (0, 0), (0, 0)])

    def test_no_token(self):
        for world, token in ((self.world, 5), (self.world, -1), (START, 0), (self.world, 10 ** 9)):
            for call in (spot_for, came_of, went_on, taken_at, is_lying):
                with self.assertRaises(NoToken) as caught:
                    call(world, token)
                self.assertEqual(caught.exception.token, token)


class TestRuns(TestCase):

    def test_beside_the_model(self):
        for number in range(250):
            given, plan, along = some_run(number)
            world = begun_world(*given)
            self.assertEqual(world, along[0])
            self.assertIs(is_begun(world), True)
            self.assertIs(is_wishes(given[0], given[1], given[3]), True)
            for choice, behind in zip(plan, along[1:]):
                self.assertIs(is_choice(world, choice), True)
                new = new_on_roads(world, choice)
                later = next_world(world, choice)
                self.assertEqual(later, behind)
                self.check_step(world, choice, later, new)
                world = later

    def check_step(self, world, choice, later, new):
        self.assertEqual((world[6] + new[0], world[7] + new[1]), (later[6], later[7]))
        self.assertEqual(later[:4], world[:4])
        reach = in_reach(later)
        for token, (cover, _, sent) in enumerate(later[6]):
            letter, place = cover
            self.assertEqual((road_token(later, cover), spot_for(later, token)), (token, spot_of(cover)))
            self.assertIs(is_choice(later, ((), (token,))), token in reach)
            if place > 0:
                ahead = came_of(later, token)
                self.assertEqual(later[6][ahead][0], (letter, place - 1))
                self.assertLess(ahead, token)
                self.assertLessEqual(later[6][ahead][2], sent)
                self.assertEqual(went_on(later, ahead), token)
            if is_lying(later, token) and later[2][spot_of(cover)[1]][3]:
                self.assertIsNone(went_on(later, token))
        for house, rule in enumerate(later[2]):
            if rule[2] is None:
                self.assertLess(how_full(later)[house], rule[0] + rule[1])
            if rule[3] and house not in later[1][1]:
                for token, _ in later[5][house][1]:
                    self.assertNotEqual(is_lying(later, token), went_on(later, token) is not None)

    def test_what_changes_nothing(self):
        for number in range(80):
            _, _, along = some_run(number)
            world = along[-1]
            for token in in_reach(world):
                kind, place = spot_for(world, token)
                if kind == "person" or (world[2][place][3] and taken_at(world, token)):
                    self.assertEqual(next_world(world, ((), (token,))), next_world(world, IDLE))
