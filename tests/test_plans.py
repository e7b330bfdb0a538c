"""Plans: what suits one behind the other, idle TOKENS, letters home; edges, errors, and many runs."""

from random import Random
from unittest import TestCase

from sendershade.errors import NoPaper, Unfit
from sendershade.plans import (all_home_by, first_unfit, fullest, home_behind, idle_comes, is_plan, letters_on, played,
                               played_out, prompt, prompt_plan, without_idle)
from sendershade.worlds import begun_world, how_full, in_reach, is_choice, next_world, road_token, spot_for
from tests.model import some_letter, some_run
from tests.test_worlds import HIGH, IDLE, LOW, START, lone_start
from tests.values import broken, listed

OPEN = (1, 0, None, True, True)
PLAN = (IDLE, ((), (0, 1)), (((2, (0,), 1, 5),), (3, 0)))
UNFIT_PLANS = (None, 0, "ab", (None,), (IDLE, ((), (9,))), (IDLE, IDLE, 3), ((), ()), (((), (0,)), IDLE), "",
               (IDLE, ((HIGH,), ())), (IDLE, ((), (-1,))), (IDLE, ((), (True,))), ({},), IDLE)


class TestPlans(TestCase):

    def setUp(self):
        self.start = begun_world((3, 2), ((2,), ()), (OPEN, OPEN), START[3], ((), ()))

    def test_is_plan(self):
        for right in ((), PLAN, PLAN[:1], (IDLE,) * 9):
            self.assertIs(is_plan(self.start, right), True)
            self.assertIsNone(first_unfit(self.start, right))
        for wrong in UNFIT_PLANS + (list(PLAN), [], listed(PLAN), (list(IDLE),), (IDLE, ([], ())), ((), [])):
            self.assertIs(is_plan(self.start, wrong), False, wrong)
        spared = [PLAN[:-1], PLAN[:1] + (((), ()),) + PLAN[2:]]
        for wrong in broken(PLAN, spared):
            if not self.suits_otherwise(wrong):
                self.assertIs(is_plan(self.start, wrong), False, wrong)

    def suits_otherwise(self, thing):
        """Whether thing is a tuple of CHOICES that suit, asked one by one."""
        world = self.start
        if not isinstance(thing, tuple):
            return False
        for choice in thing:
            if not is_choice(world, choice):
                return False
            world = next_world(world, choice)
        return True

    def test_first_unfit(self):
        self.assertEqual([first_unfit(self.start, choices) for choices in
                          ((), (None,), (IDLE, "", IDLE), (IDLE, ((), (0,)), ((), (0, 9)), None), (IDLE, {}, 0))],
                         [None, 0, 1, 2, 1])
        self.assertIsNone(first_unfit(self.start, listed(PLAN)))
        self.assertEqual(first_unfit(self.start, [[[], []], [[], [5]]]), 1)

    def test_unfit_ahead_of_all(self):
        for plan in UNFIT_PLANS:
            for call in (played, played_out, idle_comes, without_idle, letters_on, home_behind, fullest):
                with self.subTest(call=call, plan=plan):
                    self.assertRaises(Unfit, call, self.start, plan)

    def test_empty_plan(self):
        for world in (self.start, next_world(self.start, IDLE)):
            self.assertEqual([played(world, ()), played_out(world, ())], [[world], world])
            self.assertEqual([idle_comes(world, ()), without_idle(world, ())], [(), ()])
        self.assertEqual((letters_on(self.start, ()), home_behind(self.start, ())), ((), ()))
        self.assertEqual(fullest(self.start, ()), 0)

    def test_played(self):
        told = played(self.start, PLAN)
        self.assertEqual([world[4] for world in told], [0, 1, 2, 3])
        self.assertEqual(told[3], next_world(next_world(next_world(self.start, PLAN[0]), PLAN[1]), PLAN[2]))
        self.assertEqual(played_out(self.start, PLAN), told[3])

    def test_letters(self):
        own = (2, (0,), 1, 5)
        self.assertEqual(letters_on(self.start, PLAN), (HIGH, LOW, own))
        self.assertEqual(letters_on(self.start, PLAN[:2]), (HIGH, LOW))
        self.assertEqual(letters_on(played_out(self.start, PLAN), ()), (HIGH, LOW, own))
        self.assertEqual(home_behind(self.start, PLAN[:2]), ())
        self.assertEqual(home_behind(self.start, PLAN), (LOW,))

    def test_home(self):
        start = lone_start(OPEN, 2, (), ((1, (0, (0,), 2, 3)), (1, (1, (0,), 0, 4))))
        plan = (IDLE, ((), (0, 1)), ((), (3,)))
        self.assertEqual([home_behind(start, plan[:many]) for many in range(4)],
                         [(), (), ((0, (0,), 2, 3),), ((0, (0,), 2, 3), (1, (0,), 0, 4))])
        # What came ahead of world is not asked; what is for the rest is home however it got there.
        self.assertEqual(home_behind(played_out(start, plan), ()), ((0, (0,), 2, 3),))
        self.assertEqual(home_behind(played_out(start, plan), (((), (3,)),)), ((0, (0,), 2, 3), (1, (0,), 0, 4)))

    def test_home_of_the_rests_letters(self):
        own = (1, (0,), 0, 9)
        start = lone_start(OPEN, 1, (), (None,))
        plan = (((own,), ()), ((), (0,)), ((), (1,)))
        self.assertEqual([home_behind(start, plan[:many]) for many in range(4)], [(), (), (), (own,)])


class TestIdle(TestCase):

    def test_idle(self):
        start = lone_start((2, 0, None, True, True), 2)
        plan = (IDLE, ((), (0, 0)), ((), (0, 1, 1)), ((), (2, 0, 3)))
        self.assertEqual(idle_comes(start, plan), ((1, 1), (2, 0), (2, 2), (3, 0), (3, 1), (3, 2)))
        self.assertEqual(without_idle(start, plan), (IDLE, ((), (0,)), ((), (1,)), IDLE))
        self.assertEqual(idle_comes(start, plan[:2]), ((1, 1),))

    def test_letters_stay(self):
        own = (1, (0,), 0, 9)
        start = lone_start(OPEN, 1, (), (None,))
        plan = (((own, own), ()), ((own,), (0, 0)))
        self.assertEqual(without_idle(start, plan), (((own, own), ()), ((own,), (0,))))

    def test_not_idle_without_doubles_and_marks(self):
        start = lone_start((1, 0, None, False, False))
        self.assertEqual(idle_comes(start, (IDLE, ((), (0, 0)), ((), (1, 0)))), ((2, 0),))

    def test_marks_within_one_choice(self):
        one, two = (1, (0,), 0, 1), (1, (0,), 0, 2)
        start = lone_start((3, 0, None, True, True), 1, (), (None,))
        self.assertEqual(idle_comes(start, (((one, two), ()), ((), (1, 0)))), ((1, 1),))


class TestPrompt(TestCase):

    def test_prompt(self):
        world = next_world(START, (((2, (1,), 0, 3),), ()))
        self.assertEqual([prompt(START), prompt(world), prompt(next_world(world, IDLE))],
                         [IDLE, ((), (1, 2, 3)), IDLE])
        self.assertEqual([prompt_plan(START, 0), prompt_plan(START, 1)], [(), (IDLE,)])
        self.assertEqual(prompt_plan(world, 2), (((), (1, 2, 3)), ((), (4,))))

    def test_all_home_by(self):
        self.assertEqual(all_home_by(lone_start(OPEN, 1, (), (None,)), 0), 0)
        slow = lone_start((2, 0, None, True, True), 2, (), ((1, (0, (0,), 2, 0)), (3, (1, (0,), 2, 0))))
        self.assertRaises(NoPaper, all_home_by, slow, 3)
        self.assertEqual([all_home_by(slow, 4), all_home_by(slow, 30)], [4, 4])
        self.assertRaises(NoPaper, all_home_by, lone_start((2, 0, None, True, True)), 30)
        done = played_out(slow, prompt_plan(slow, 4))
        self.assertEqual(all_home_by(done, 0), 0)
        # The last COVER came home ahead of this WORLD: no prompt CHOICE brings it again.
        own = lone_start(OPEN)
        self.assertRaises(NoPaper, all_home_by, played_out(own, prompt_plan(own, 3)), 5)

    def test_fullest(self):
        start = lone_start((3, 0, None, True, True), 3)
        self.assertEqual([fullest(start, plan) for plan in
                          ((IDLE,), (IDLE, ((), (0,))), (IDLE, ((), (0, 1))), (IDLE, ((), (0, 1)), ((), (2,))))],
                         [0, 1, 2, 2])
        self.assertEqual(fullest(next_world(next_world(start, IDLE), ((), (2, 1))), ()), 2)


class TestRuns(TestCase):

    def test_parted_anywhere(self):
        for number in range(120):
            _, plan, along = some_run(number)
            self.assertEqual(played(along[0], plan), along)
            self.assertIs(is_plan(along[0], plan), True)
            for place, world in enumerate(along):
                self.assertIs(is_plan(world, plan[place:]), True)
                self.assertEqual(played_out(along[0], plan[:place]), world)
                self.assertEqual(played_out(world, plan[place:]), along[-1])
            self.assertEqual(fullest(along[0], plan), max(max(how_full(world)) for world in along))

    def test_without_idle(self):
        for number in range(120):
            _, plan, along = some_run(number)
            self.assertEqual(played(along[0], without_idle(along[0], plan)), along)
            wanted = []
            for place, (_, comes) in enumerate(plan):
                for spot in range(len(comes)):
                    less = ((), comes[:spot])
                    more = ((), comes[:spot + 1])
                    if self.taken(along[place], less) == self.taken(along[place], more):
                        wanted.append((place, spot))
            self.assertEqual(idle_comes(along[0], plan), tuple(wanted))

    def taken(self, world, choice):
        return [box[1] for box in next_world(world, choice)[5]]

    def test_letters(self):
        for number in range(120):
            _, plan, along = some_run(number)
            last = along[-1]
            letters = sorted({row[0][0] for row in last[6]})
            self.assertEqual(letters_on(along[0], plan), tuple(letters))
            came = {token for _, comes in plan for token in comes}
            home = [letter for letter in letters
                    if road_token(last, (letter, len(letter[1]))) is not None
                    and (letter[2] in last[1][0] or road_token(last, (letter, len(letter[1]))) in came)]
            self.assertEqual(home_behind(along[0], plan), tuple(home))

    def test_prompt_plans(self):
        for number in range(120):
            _, _, along = some_run(number, 3)
            world, told = along[-1], prompt_plan(along[-1], 4)
            self.assertEqual(len(told), 4)
            for many, choice in enumerate(told):
                here = played_out(world, told[:many])
                reach = [token for token in in_reach(here) if here[6][token][2] == here[4]]
                self.assertEqual((choice, prompt(here)), (((), tuple(reach)),) * 2)
            self.check_home_by(world)

    def check_home_by(self, world):
        wished = {wish[1] for wish in world[3] if wish is not None}
        fit = [many for many in range(7) if wished <= set(home_behind(world, prompt_plan(world, many)))]
        if fit:
            self.assertEqual(all_home_by(world, 6), fit[0])
            self.assertEqual(all_home_by(world, fit[0]), fit[0])
        else:
            self.assertRaises(NoPaper, all_home_by, world, 6)

    def test_home_by_prompt_choices(self):
        chance = Random(9)
        for _ in range(60):
            net = (chance.randrange(1, 5), chance.randrange(1, 4))
            rest = (tuple(own for own in range(net[0]) if chance.random() < 0.3),
                    tuple(own for own in range(net[1]) if chance.random() < 0.3))
            wishes = tuple(None if own in rest[0] else (chance.randrange(1, 4), some_letter(chance, net, own))
                           for own in range(net[0]))
            start = begun_world(net, rest, (OPEN,) * net[1], wishes, ((),) * net[1])
            wanted = 0
            for moment, letter in [wish for wish in wishes if wish is not None]:
                steady = len([house for house in letter[1] if house not in rest[1]])
                home = moment + steady + (0 if letter[2] in rest[0] else 1)
                for many, known in ((home - 1, False), (home, True)):
                    self.assertEqual(letter in home_behind(start, prompt_plan(start, many)), known)
                wanted = max(wanted, home)
            self.assertEqual(all_home_by(start, 12), wanted)
            self.assertTrue(all(spot_for(start, token) for token in in_reach(start)))
