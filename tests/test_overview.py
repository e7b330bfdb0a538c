"""What the document promises over the whole program, of some WORLDS and PLANS from the one end to the other."""

from fractions import Fraction
from unittest import TestCase

from sendershade.alike import all_alike, is_other, threading_of
from sendershade.finds import finding, is_finding, possible
from sendershade.judge import is_paper, is_so, paper, shows
from sendershade.least import is_enough, sure_many
from sendershade.plans import played_out
from sendershade.shades import shade
from sendershade.shares import shares_of
from sendershade.shell import first_desk, session
from sendershade.sights import sight_of
from sendershade.swaps import is_swap_row, swap_row, swapped_by
from sendershade.texts import plan_text, read_plan, read_view, read_world, view_text, world_text
from sendershade.threads import all_threadings, how_many, true_threading
from sendershade.views import view_of
from tests.scenes import some_scene


class TestOverview(TestCase):

    def setUp(self):
        scenes = [some_scene(number) for number in range(300, 360)]
        self.scenes = [(start, plan, along[-1]) for start, plan, along in scenes if how_many(sight_of(along[-1])) <= 40]
        self.assertGreater(len(self.scenes), 20)

    def test_worlds_with_the_same_view(self):
        for start, plan, last in self.scenes:
            sight = sight_of(last)
            rows = all_threadings(sight)
            worlds = all_alike(start, plan)
            self.assertEqual([threading_of(start, plan, own) for own in worlds], rows)
            for world in worlds:
                self.assertEqual(view_of(played_out(world, plan)), view_of(last))
            for row in rows[-2:]:
                swaps = swap_row(sight, true_threading(last), row)
                self.assertIs(is_swap_row(sight, true_threading(last), row, swaps), True)
                self.assertEqual(swapped_by(sight, true_threading(last), swaps), row)

    def test_who_may_have_sent(self):
        for start, plan, last in self.scenes:
            sight = sight_of(last)
            for token in range(0, len(sight), 3):
                self.assertEqual(possible(start, plan, token), shade(sight, token))
                self.assertEqual(tuple(person for person, _ in shares_of(sight, token)), shade(sight, token))
                for person in range(start[0][0]):
                    claim = ("may", sight, token, person)
                    self.assertIs(is_so(claim), person in shade(sight, token))
                    self.assertIs(shows(claim, paper(claim)), is_so(claim))
                worlds = all_alike(start, plan)
                people = [played_out(own, plan)[6][token][0][0][0] for own in worlds]
                for person, part in shares_of(sight, token):
                    self.assertEqual(Fraction(*part), Fraction(people.count(person), len(worlds)))
                    self.assertIs(is_other(start, plan, token, person, worlds[people.index(person)]), True)

    def test_what_is_enough(self):
        asked = 0
        for start, plan, last in self.scenes:
            net, rest, rules = start[:3]
            sight = sight_of(last)
            many = [sure_many(rule, rest) for house, rule in enumerate(rules) if house not in rest[1]]
            if not many:
                continue
            self.assertIs(is_enough(min(many), rest, rules), True)
            self.assertIs(is_enough(min(many) + 1, rest, rules), False)
            for token, ((letter, _), spot, _) in enumerate(last[6]):
                if letter[0] not in rest[0] and spot[0] == "house" and spot[1] not in rest[1]:
                    asked += 1
                    self.assertGreaterEqual(len(shade(sight, token)), min(many))
                    for _, part in shares_of(sight, token):
                        self.assertLessEqual(Fraction(*part), Fraction(1, min(many)))
        self.assertGreater(asked, 40)

    def test_with_one_less(self):
        for rule in ((1, 0, None, True, True), (2, 0, None, True, True), (2, 2, None, True, True), (4, 1, None, True, True)):
            for bad in range(4):
                want = sure_many(rule, (tuple(range(bad)), ())) + 1
                told = finding(rule, want, bad)
                self.assertIs(is_finding(rule, want, bad, told), True)
                claim = ("weak", rule, want, bad)
                self.assertIs(shows(claim, told), True)
                self.assertIs(is_paper(claim, rule[0] + rule[1] - bad), False)
                if want > 2 and bad < rule[0] + rule[1]:
                    self.assertEqual((is_so(("weak", rule, want - 1, bad)), is_finding(rule, want - 1, bad, told)), (False, False))

    def test_texts_and_a_shell(self):
        for start, plan, last in self.scenes[:20]:
            self.assertEqual((read_world(world_text(start)), read_plan(plan_text(plan))), (start, plan))
            self.assertEqual(read_view(view_text(view_of(last))), view_of(last))
            steps = plan_text(plan).replace("\n", "\n ").replace("\n choice", "\nstep\n choice")
            text = "world\n " + world_text(start).replace("\n", "\n ") + "\nstep\n " + steps + "\nseen\nmany"
            _, told = session(first_desk(), text)
            self.assertEqual(told, ("done",) * (len(plan) + 1) + (view_text(view_of(last)), str(how_many(sight_of(last)))))
