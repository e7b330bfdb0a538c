"""WORLDS with the same VIEW: one for each THREADING, played and looked at; no other ones, beside trying out all."""

from itertools import product
from unittest import TestCase

from sendershade.alike import (alike_along, alike_world, all_alike, is_alike, is_other, letters_by, luck_by,
                               other_world, threading_of, wishes_by)
from sendershade.errors import NoPaper, NoToken, TooMany, Unfit
from sendershade.luck import pick_alike
from sendershade.plans import played, played_out
from sendershade.shades import shade
from sendershade.sights import sight_of
from sendershade.swaps import lie_together, swap_row, swaps_of
from sendershade.threads import all_threadings, how_many, true_threading
from sendershade.views import view_of
from sendershade.worlds import is_begun, next_world
from tests.model import some_run
from tests.scenes import some_scene
from tests.values import broken, listed

CALM, LOW, HIGH = (2, 0, None, True, True), (0, (0,), 2, 7), (1, (0,), 0, 9)
NIGHT = ((3, 1), ((2,), ()), (CALM,), ((1, LOW), (1, HIGH), None), 0, (((), (), ()),), (), ())
TALK = (((), ()), ((), (0, 1)))
CROSSED, STRAIGHT = (None, None, 1, 0), (None, None, 0, 1)
DAWN = NIGHT[:3] + (((1, (0, (0,), 0, 9)), (1, (1, (0,), 2, 7)), None),) + (0, (((), (), (1, 0)),), (), ())


def all_calls(world, plan):
    """Each function, of this WORLD and PLAN."""
    return [lambda: luck_by(world, plan, STRAIGHT), lambda: wishes_by(world, plan, STRAIGHT),
            lambda: alike_world(world, plan, STRAIGHT), lambda: is_alike(world, plan, None),
            lambda: threading_of(world, plan, NIGHT), lambda: all_alike(world, plan),
            lambda: alike_along(world, plan, ()), lambda: other_world(world, plan, 99, 0),
            lambda: is_other(world, plan, 99, 0, None), lambda: letters_by(world, plan, 0)]


def crowded_night(people, houses=1):
    """A WORLD of so many steady PERSONS, and a PLAN by which all lie together in each HOUSE."""
    wishes = tuple((1, (own, tuple(range(houses)), (own + 1) % people, own)) for own in range(people))
    rules = ((people, 0, None, True, True),) * houses
    world = ((people, houses), ((), ()), rules, wishes, 0, (((), (), ()),) * houses, (), ())
    plan = tuple(((), tuple(range(people * (turn - 1), people * turn)) if turn else ()) for turn in range(houses + 1))
    return world, plan


class TestTold(TestCase):

    def test_night(self):
        self.assertEqual([luck_by(NIGHT, TALK, own) for own in (STRAIGHT, CROSSED)], [((0, 0),), ((1, 0),)])
        self.assertEqual([wishes_by(NIGHT, TALK, own) for own in (STRAIGHT, CROSSED)], [NIGHT[3], DAWN[3]])
        self.assertEqual(alike_world(NIGHT, TALK, CROSSED), DAWN)
        plain = NIGHT[:5] + ((((), (), (0, 0)),), (), ())
        self.assertEqual(all_alike(NIGHT, TALK), [plain, DAWN])
        self.assertEqual(alike_along(NIGHT, TALK, ()), [plain])
        self.assertEqual(alike_along(NIGHT, TALK, ((0, 1), (0, 1))), [plain, DAWN, plain])
        self.assertEqual([threading_of(NIGHT, TALK, own) for own in (NIGHT, plain, DAWN)],
                         [STRAIGHT, STRAIGHT, CROSSED])

    def test_no_choices(self):
        self.assertEqual((luck_by(NIGHT, (), ()), wishes_by(NIGHT, (), ())), (((),), NIGHT[3]))
        self.assertEqual(all_alike(NIGHT, ()), [NIGHT])
        self.assertEqual((letters_by(NIGHT, (), 0), threading_of(NIGHT, (), DAWN)), ((), ()))
        # Whatever has not been sent is not seen.
        self.assertIs(is_alike(NIGHT, (), DAWN), True)
        self.assertRaises(NoToken, other_world, NIGHT, (), 0, 0)

    def test_sent_and_not_taken(self):
        plan = (((), ()), ((), (0,)))
        self.assertEqual(wishes_by(NIGHT, plan, (None, None)), NIGHT[3])
        self.assertEqual(luck_by(NIGHT, plan, (None, None)), ((),))
        self.assertEqual((letters_by(NIGHT, plan, 0), letters_by(NIGHT, plan, 2)), ((LOW,), ()))

    def test_not_sent_yet(self):
        late = NIGHT[:3] + (((1, LOW), (5, HIGH), None),) + NIGHT[4:]
        plan = (((), ()), ((), (0,)))
        self.assertEqual(wishes_by(late, plan, (None,)), late[3])
        self.assertEqual((letters_by(late, plan, 1), letters_by(late, plan, 0)), ((), (LOW,)))

    def test_goes_on_as_what_it_becomes(self):
        # Behind HOUSE 0 what is still before both changes places: route, goal, word, also what is not sent yet.
        one, two = (0, (0, 2), 1, 5), (1, (0, 1, 2), 2, 6)
        world = ((3, 3), ((2,), (1,)), ((2, 0, None, True, True),) * 3, ((1, one), (1, two), None), 0,
                 (((), (), (9,)), ((), (), (4, 4)), ((), (), (3,))), (), ())
        self.assertEqual([row[1] for row in played_out(world, TALK)[6]],
                         [("person", 0), ("person", 1), ("house", 0), ("house", 1), ("house", 0)])
        crossed = (None, None, 0, 2, 1)
        self.assertEqual(true_threading(played_out(world, TALK)), (None, None, 1, 2, 0))
        self.assertEqual(wishes_by(world, TALK, crossed), ((1, (0, (0, 1, 2), 2, 6)), (1, (1, (0, 2), 1, 5)), None))
        # A HOUSE of the rest has no LUCK, one from which nothing went none, either.
        self.assertEqual(luck_by(world, TALK, crossed), ((0, 0), (), ()))
        told = alike_world(world, TALK, crossed)
        self.assertEqual(told[5], (((), (), (0, 0)), ((), (), ()), ((), (), ())))
        self.assertIs(is_alike(world, TALK, told), True)

    def test_letters_of_the_rest(self):
        own = (2, (0,), 1, 4)
        plan = (((own,), ()), ((), (2, 0)))
        self.assertEqual(true_threading(played_out(NIGHT, plan)), (None, None, None, 2, 0))
        self.assertEqual(luck_by(NIGHT, plan, (None, None, None, 2, 0)), ((0, 0),))
        self.assertEqual([letters_by(NIGHT, plan, person) for person in (0, 1, 2, 9)], [(LOW,), (HIGH,), (own,), ()])
        for token, person in ((3, 0), (3, 2), (4, 0), (4, 1), (0, 0)):
            self.assertRaises(NoPaper, other_world, NIGHT, plan, token, person)
        for token, person in ((3, 1), (4, 2), (0, 2), (1, 0)):
            told = other_world(NIGHT, plan, token, person)
            self.assertIs(is_other(NIGHT, plan, token, person, told), True)
            self.assertIs(is_other(NIGHT, plan, token, 9, told), False)

    def test_letters_by(self):
        self.assertEqual([letters_by(NIGHT, TALK, person) for person in (0, 1, 2)],
                         [((0, (0,), 0, 9), LOW), (HIGH, (1, (0,), 2, 7)), ()])


class TestErrors(TestCase):

    def test_world_and_plan_first(self):
        late = next_world(NIGHT, ((), ()))
        worlds = [late, NIGHT[:4] + (1,) + NIGHT[5:], NIGHT[:4] + (False,) + NIGHT[5:], NIGHT[:7], None, 3, ()]
        for rule in ((2, 0, 5, True, True), (2, 0, None, False, True), (2, 0, None, True, False)):
            worlds.append(NIGHT[:2] + ((rule,),) + NIGHT[3:])
        for world in worlds:
            for call in all_calls(world, TALK):
                self.assertRaises(Unfit, call)
        for plan in (None, 0, (None,), (((), (0,)),), (((), ()), ((LOW,), ())), TALK + (((), (9,)),), ((), ())):
            for call in all_calls(NIGHT, plan):
                self.assertRaises(Unfit, call)

    def test_a_house_of_the_rest_needs_no_care(self):
        rules = ((2, 0, None, True, True), (1, 0, 3, False, False))
        world = ((3, 2), ((2,), (1,)), rules, NIGHT[3], 0, (((), (), ()),) * 2, (), ())
        self.assertEqual(len(all_alike(world, TALK)), 2)
        turned = world[:2] + (rules[::-1],) + world[3:]
        self.assertRaises(Unfit, all_alike, turned, TALK)

    def test_threadings(self):
        for threading in ((), None, (None, None, 0, 0), (None, None, 1), (None, None, 2, 0), (None, None, 0, None),
                          (None, None, True, 0), (None, None, 0, 1, 2), (0, None, 0, 1), "", 5):
            for call in (luck_by, wishes_by, alike_world):
                self.assertRaises(Unfit, call, NIGHT, TALK, threading)

    def test_swaps(self):
        for swaps in (((1, 0),), ((0, 1), (0, 2)), ((0, 0),), ((2, 3),), ((0, 9),), ((-4, 1),), (None,), None, 3,
                      ((0,),), ((0, 1, 2),), (0, 1)):
            self.assertRaises(Unfit, alike_along, NIGHT, TALK, swaps)

    def test_tokens(self):
        for token in (-1, 4, 99):
            for call, more in ((other_world, (9,)), (is_other, (9, None))):
                with self.assertRaises(NoToken) as caught:
                    call(NIGHT, TALK, token, *more)
                self.assertEqual(caught.exception.token, token)

    def test_no_paper(self):
        for token, person in ((0, 1), (1, 0), (2, 2), (3, 2), (2, 99)):
            self.assertRaises(NoPaper, other_world, NIGHT, TALK, token, person)

    def test_too_many(self):
        world, plan = crowded_night(7)
        self.assertEqual(how_many(sight_of(played_out(world, plan))), 5040)
        self.assertRaises(TooMany, all_alike, world, plan)
        for person in (0, 99):
            self.assertRaises(TooMany, letters_by, world, plan, person)

    def test_far_too_many(self):
        world, plan = crowded_night(7, 3)
        sight = sight_of(played_out(world, plan))
        self.assertEqual(how_many(sight), 5040 ** 3)
        told = other_world(world, plan, 21, 6)
        self.assertIs(is_other(world, plan, 21, 6, told), True)
        self.assertIs(is_other(world, plan, 21, 5, told), False)
        row = swap_row(sight, true_threading(played_out(world, plan)), threading_of(world, plan, told))
        along = alike_along(world, plan, row)
        self.assertEqual((along[-1], len(along)), (told, len(row) + 1))


class TestIsAlike(TestCase):

    def test_wrong_things(self):
        self.assertIs(is_alike(NIGHT, TALK, DAWN), True)
        for thing in broken(DAWN):
            if not is_begun(thing):
                self.assertIs(is_alike(NIGHT, TALK, thing), False)
                self.assertIs(is_other(NIGHT, TALK, 2, 1, thing), False)
        for thing in (None, True, 0, "", (), [], listed(DAWN), list(DAWN), DAWN[:7], (DAWN,),
                      next_world(DAWN, ((), ()))):
            self.assertIs(is_alike(NIGHT, TALK, thing), False)
            self.assertIs(is_other(NIGHT, TALK, 2, 1, thing), False)

    def test_one_thing_changed(self):
        def changed(place, part):
            return DAWN[:place] + (part,) + DAWN[place + 1:]

        zero, one = DAWN[3][:2]
        for place, part, known in ((0, (4, 1), False), (1, ((), ()), False), (1, ((1, 2), ()), False),
                                   (2, ((1, 1, None, True, True),), False), (2, ((2, 0, 9, True, True),), False),
                                   (3, (zero, None, None), False), (3, (zero, (2, one[1]), None), False),
                                   (3, (zero, (1, (1, (0,), 2, 8)), None), False),
                                   (3, ((1, (0, (0,), 1, 9)), one, None), False),
                                   (3, ((1, (0, (0,), 0, 8)), one, None), True), (5, (((), (), ()),), False),
                                   (5, (((), (), (3, 4, 7)),), True), (5, (((), (), (0, 1)),), False),
                                   (5, (((), (), (1,)),), True)):
            self.assertIs(is_begun(changed(place, part)) or place in (0, 1), True)
            self.assertIs(is_alike(NIGHT, TALK, changed(place, part)), known, (place, part))
            if not known:
                self.assertRaises(Unfit, threading_of, NIGHT, TALK, changed(place, part))

    def test_plan_that_does_not_suit(self):
        # The second CHOICE asks for a TOKEN that the other WORLD has not got on the roads.
        none = NIGHT[:3] + ((NIGHT[3][0], None, None),) + NIGHT[4:]
        self.assertIs(is_alike(NIGHT, TALK, none), False)

    def test_trying_out_all(self):
        """All WORLDS of two steady PERSONS, one HOUSE, and few moments, goals, words: which are alike?"""
        wishes = [[None] + [(moment, (own, (0,), goal, word))
                            for moment in (1, 2) for goal in (0, 2) for word in (7, 9)] for own in (0, 1)]
        for plan in (TALK, TALK[:1] + (((), (1, 0, 1)),), TALK + (((), ()),), TALK[:1] + (((), (0,)), ((), (0,)))):
            here, lucks, alike = set(), [(), (1,), (0, 0), (0, 1), (1, 0)], 0
            for near, far, luck in product(wishes[0], wishes[1], lucks):
                thing = NIGHT[:3] + ((near, far, None), 0, (((), (), luck),), (), ())
                if is_alike(NIGHT, plan, thing):
                    alike += 1
                    here.add(threading_of(NIGHT, plan, thing))
                    self.assertEqual(view_of(played_out(thing, plan)), view_of(played_out(NIGHT, plan)))
                else:
                    self.assertRaises(Unfit, threading_of, NIGHT, plan, thing)
            self.assertEqual(sorted(here), all_threadings(sight_of(played_out(NIGHT, plan))))
            self.assertGreater(alike, len(here))


class TestRuns(TestCase):

    def setUp(self):
        scenes = [some_scene(number) for number in range(110)]
        self.scenes = [(start, plan, along[-1]) for start, plan, along in scenes if how_many(sight_of(along[-1])) <= 48]

    def test_each_threading_is_a_world(self):
        for start, plan, last in self.scenes:
            view, sight = view_of(last), sight_of(last)
            rows = all_threadings(sight)
            told = all_alike(start, plan)
            self.assertEqual(len(told), len(rows))
            for threading, world in list(zip(rows, told))[::1 + len(rows) // 12]:
                self.assertIs(is_begun(world), True)
                self.assertEqual(world[:3], start[:3])
                self.assertEqual(view_of(played_out(world, plan)), view)
                self.assertEqual(sight_of(played_out(world, plan)), sight)
                self.assertIs(is_alike(start, plan, world), True)
                self.assertEqual(true_threading(played_out(world, plan)), threading)
                self.assertEqual(threading_of(start, plan, world), threading)
                self.assertEqual(alike_world(start, plan, threading), world)
                self.assertEqual(wishes_by(start, plan, threading), world[3])
                self.assertEqual(luck_by(start, plan, threading), tuple(box[2] for box in world[5]))
                # From there on the true one is a WORLD alike, too.
                self.assertIs(is_alike(world, plan, start), True)
                self.assertEqual(len(all_alike(world, plan)), len(rows))

    def test_the_true_one(self):
        for start, plan, last in self.scenes:
            true = true_threading(last)
            self.assertEqual(wishes_by(start, plan, true), start[3])
            self.assertEqual(threading_of(start, plan, start), true)
            world = alike_world(start, plan, true)
            self.assertEqual([own[6:] for own in played(world, plan)], [own[6:] for own in played(start, plan)])
            for house, luck in enumerate(luck_by(start, plan, true)):
                gone = [token for token, row in enumerate(last[6]) if row[1] == ("house", house)]
                self.assertEqual(len(luck), 0 if house in start[1][1] else len(gone))
            if start[0][1] == 1 and start[1][1] == () and len(plan) > 1:
                lying = len(last[5][0][1])
                luck = luck_by(start, plan, true)[0]
                if lying == len(luck) and len({row[2] for row in last[6] if row[1] == ("house", 0)}) == 1:
                    self.assertIs(pick_alike(luck, start[5][0][2], lying, lying), True)

    def test_others(self):
        for start, plan, last in self.scenes:
            sight = sight_of(last)
            for token in range(0, len(sight), 2):
                for person in range(start[0][0] + 1):
                    if person not in shade(sight, token):
                        self.assertRaises(NoPaper, other_world, start, plan, token, person)
                        continue
                    told = other_world(start, plan, token, person)
                    self.assertIs(is_other(start, plan, token, person, told), True)
                    self.assertIs(is_alike(start, plan, told), True)
                    self.assertEqual(played_out(told, plan)[6][token][0][0][0], person)
                    self.assertIs(is_other(start, plan, token, (person + 1) % start[0][0], told),
                                  start[0][0] == 1)
                    self.assertEqual(other_world(start, plan, token, person), told)

    def test_along_swaps(self):
        for start, plan, last in self.scenes:
            sight, here = sight_of(last), true_threading(last)
            row = swap_row(sight, here, all_threadings(sight)[-1])
            along = alike_along(start, plan, row)
            self.assertEqual(len(along), len(row) + 1)
            self.assertEqual(along[0], alike_world(start, plan, here))
            for swap, (near, far) in zip(row, zip(along, along[1:])):
                one, other = threading_of(start, plan, near), threading_of(start, plan, far)
                self.assertIn(swap, swaps_of(sight, one))
                self.assertIs(lie_together(sight, one, *swap), True)
                exchanged = dict((swap, swap[::-1]))
                self.assertEqual(other, tuple(exchanged.get(own, own) for own in one))
            if row:
                self.assertRaises(Unfit, alike_along, start, plan, row + ((row[-1][1], row[-1][0]),))

    def test_letters(self):
        for start, plan, last in self.scenes[::2]:
            for person in range(start[0][0]):
                told = set()
                for world in all_alike(start, plan):
                    told.update(letter for (letter, _), spot, _ in played_out(world, plan)[6]
                                if spot == ("person", person))
                self.assertEqual(letters_by(start, plan, person), tuple(sorted(told)))

    def test_worlds_without_care(self):
        for number in range(60):
            given, plan, along = some_run(number)
            steady = [rule for house, rule in enumerate(given[2]) if house not in given[1][1]]
            if all(rule[2] is None and rule[3] and rule[4] for rule in steady):
                self.assertIs(is_alike(along[0], plan, along[0]), True)
            else:
                for call in all_calls(along[0], plan):
                    self.assertRaises(Unfit, call)
