"""Mates, who is possible, and FINDINGS: beside trying all WISHES and LUCK of small WORLDS; edges, errors, wrong things."""

from unittest import TestCase

from sendershade.errors import NoPaper, NoToken, TooMany, Unfit
from sendershade.finds import (finding, is_finding, is_mate_of, least_seen, mate_of, mate_rows, possible, traced,
                               weakness)
from sendershade.plans import is_plan, played_out
from sendershade.shades import shades
from sendershade.sights import sight_of
from sendershade.threads import how_many
from sendershade.views import view_of
from sendershade.worlds import is_begun
from tests.calls_finds import BOTH, EVEN, FLOOD, FULL, FULL_PLAN, HALL, MATE, SEEN, SLY, SLY_RULE
from tests.mates import mates, some_hall, wishes_tried
from tests.scenes import some_scene
from tests.values import broken, listed

ALL_RULES = [(batch, keep, wait, doubles, marks) for batch in range(1, 7) for keep in range(7 - batch)
             for wait in (None, 1, 8) for doubles in (True, False) for marks in (True, False)]


def is_hushed(world, token):
    """Whether token is from a steady HOUSE, its letter from a steady PERSON."""
    (letter, _), spot, _ = world[6][token]
    return letter[0] not in world[1][0] and spot[0] == "house" and spot[1] not in world[1][1]


def word_for(rule, want, bad):
    """The table of weakness, row by row."""
    batch, keep, wait, doubles, marks = rule
    rows = (("batch", batch + keep < want + bad), ("wait", wait is not None),
            ("double", doubles is False and marks is False), ("mark", marks is False and bad > 0))
    return ([word for word, fits in rows if fits] + [None])[0]


class TestMates(TestCase):

    def test_told(self):
        self.assertEqual([possible(HALL, BOTH, token) for token in range(4)], [(0,), (1,), (0, 1), (0, 1)])
        self.assertEqual(mate_of(HALL, BOTH, 2, 1)[3], MATE[3])
        # The second of the rest's letters is known, and TOKENS that are known, or from a PERSON, tell their sender.
        self.assertEqual([possible(SLY, FLOOD, token) for token in range(len(played_out(SLY, FLOOD)[6]))],
                         [(2,), (0,), (1,), (0,), (2,)])
        self.assertEqual((mate_rows(SLY, FLOOD), mate_rows(HALL, ())), (1, 1))

    def test_sent_again(self):
        # One is sent again, lies twice, and goes with itself: that it comes again tells that it was the same one.
        loose = HALL[:2] + (((2, 0, None, False, False),),) + HALL[3:]
        plan = (((), ()), ((), (0, 0)), ((), (1, 0)))
        self.assertEqual([row[1:] for row in played_out(loose, plan)[6][2:]],
                         [(("house", 0), 2), (("house", 0), 3)])
        self.assertEqual(played_out(loose, plan)[7], ((2, 2), (3, 2)))
        self.assertEqual((possible(loose, plan, 2), possible(loose, plan, 3)), ((0,), (1,)))
        # Two places for the first one, one for the second; then which of both goes first is not told by the VIEW.
        self.assertEqual(mate_rows(loose, plan), 2 * 2)

    def test_sent_again_with_others(self):
        loose = HALL[:2] + (((3, 0, None, False, False),),) + HALL[3:]
        plan = (((), ()), ((), (0, 1, 1)))
        self.assertEqual(played_out(loose, plan)[7], ((2, 3),))
        # TOKEN 3 went twice, so it is 1's.
        self.assertEqual((possible(loose, plan, 2), possible(loose, plan, 3)), ((0,), (1,)))

    def test_waits(self):
        wait = HALL[:2] + (((2, 0, 2, True, True),),) + HALL[3:]
        plan = (((), ()), ((), (0,)), ((), ()), ((), ()), ((), (1,)), ((), ()), ((), ()))
        self.assertEqual([possible(wait, plan, token) for token in range(4)], [(0,), (1,), (0,), (1,)])
        self.assertEqual(mate_rows(wait, plan), 1)

    def test_when_it_waits_tells_who_went(self):
        # By batch one of 0 and 1 goes, one is kept; 2 comes later. Then all go: when, tells who was kept.
        wishes = tuple((1, (own, (0,), 3, own)) for own in range(3)) + (None,)
        for luck, people in (((0,), (0,)), ((1,), (1,))):
            world = ((4, 1), ((3,), ()), ((1, 1, 2, True, True),), wishes, 0, (((), (), luck),), (), ())
            plan = (((), ()), ((), (0,)), ((), (1,)), ((), ()), ((), ()))
            last = played_out(world, plan)
            self.assertEqual([row[2] for row in last[6]], [1, 1, 1, 3, 4 if people == (1,) else 5])
            self.assertEqual(possible(world, plan, 3), people)
            self.assertEqual(possible(world, plan, 4), (1 - people[0],))

    def test_several_houses(self):
        # Four rows by the first HOUSE and the second one together: each by itself.
        wishes = tuple((1, (own, (0, 1), 2, own)) for own in range(2)) + (None,)
        world = ((3, 2), ((2,), ()), (EVEN, EVEN), wishes, 0, (((), (), ()),) * 2, (), ())
        plan = (((), ()), ((), (0, 1)), ((), (2, 3)))
        self.assertEqual((mate_rows(world, plan), least_seen(world, plan)), (4, (2, 2)))
        for token in (4, 5):
            for person in (0, 1):
                told = mate_of(world, plan, token, person)
                self.assertIs(is_mate_of(world, plan, token, person, told), True)
                self.assertIs(is_mate_of(world, plan, token, 1 - person, told), False)

    def test_least_seen(self):
        self.assertEqual((least_seen(HALL, BOTH), least_seen(SLY, FLOOD)), ((2, 2), (1, 3)))
        for plan in ((), BOTH[:1], (((), ()), ((), (0,)))):
            self.assertRaises(NoPaper, least_seen, HALL, plan)
        # Only a letter of the rest went.
        own = ((HALL[0]), HALL[1], ((1, 0, None, True, True),)) + HALL[3:]
        self.assertRaises(NoPaper, least_seen, own, ((FLOOD[0][0], ()), ((), (0,))))

    def test_traced(self):
        self.assertEqual([traced(SEEN, token) for token in range(5)], [0, 2, 2, None, None])
        first = ("person", 1), ("house", 1), 1, None, None
        view = ((first, (("house", 1), ("house", 2), 1, ("opened", 0), None),
                 (("house", 2), ("person", 2), 1, ("opened", 1), 4)), ())
        self.assertEqual([traced(view, token) for token in range(3)], [1, 1, 1])
        for token in (-1, 5, 77):
            with self.assertRaises(NoToken) as caught:
                traced(SEEN, token)
            self.assertEqual(caught.exception.token, token)


class TestErrors(TestCase):

    def test_plan_first_then_token_then_too_many(self):
        for plan in (None, 3, BOTH[1:], (((), (0,)),), BOTH + (((), (9,)),), ((FLOOD[0][0], ()),) + (None,)):
            for call in (lambda: mate_rows(HALL, plan), lambda: possible(FULL, plan, 99),
                         lambda: mate_of(FULL, plan, 99, 0), lambda: is_mate_of(FULL, plan, 99, 0, None),
                         lambda: least_seen(FULL, plan)):
                self.assertRaises(Unfit, call)
        for token in (-1, 14, 99):
            for call in (possible, mate_of, is_mate_of):
                with self.assertRaises(NoToken) as caught:
                    call(FULL, FULL_PLAN, token, *{possible: (), mate_of: (99,), is_mate_of: (99, None)}[call])
                self.assertEqual(caught.exception.token, token)
        for call in (lambda: mate_rows(FULL, FULL_PLAN), lambda: possible(FULL, FULL_PLAN, 0),
                     lambda: mate_of(FULL, FULL_PLAN, 0, 99), lambda: least_seen(FULL, FULL_PLAN)):
            self.assertRaises(TooMany, call)

    def test_too_many_ahead_of_no_hushed_one(self):
        # All that go are the rest's, but which of many steady ones stayed is asked first.
        loose = ((2, 1), ((1,), ()), ((8, 0, None, False, False),), (None, None), 0, (((), (), ()),), (), ())
        plan = ((((1, (0,), 0, 5),), ()), ((), (0,) * 8))
        self.assertRaises(TooMany, least_seen, loose, plan)
        self.assertRaises(TooMany, mate_rows, loose, plan)

    def test_just_2000(self):
        # Out of each HOUSE goes one of so many copies of a letter.
        for copies, known in (((20, 20, 5), True), ((23, 29, 3), False)):
            rules = tuple((1, many - 1, None, False, False) for many in copies)
            wishes = tuple((1, (own, (own,), 0, 0)) for own in range(3))
            world = ((3, 3), ((), ()), rules, wishes, 0, (((), (), ()),) * 3, (), ())
            plan = (((), ()), ((), sum(((own,) * many for own, many in enumerate(copies)), ())))
            if known:
                self.assertEqual((mate_rows(world, plan), least_seen(world, plan)), (2000, (1, 3)))
            else:
                self.assertRaises(TooMany, mate_rows, world, plan)

    def test_mate_is_never_too_many(self):
        self.assertIs(is_mate_of(FULL, FULL_PLAN, 9, 2, FULL), True)
        self.assertIs(is_mate_of(FULL, FULL_PLAN, 9, 3, FULL), False)

    def test_no_paper(self):
        for token, person in ((0, 1), (2, 2), (3, -1), (2, 99)):
            self.assertRaises(NoPaper, mate_of, HALL, BOTH, token, person)


class TestIsMate(TestCase):

    def test_wrong_things(self):
        self.assertIs(is_mate_of(HALL, BOTH, 2, 1, MATE), True)
        for thing in broken(MATE):
            if not is_begun(thing):
                self.assertIs(is_mate_of(HALL, BOTH, 2, 1, thing), False)
        for thing in (None, True, 0, "", (), [], listed(MATE), list(MATE), MATE[:7], (MATE,),
                      played_out(MATE, BOTH[:1])):
            self.assertIs(is_mate_of(HALL, BOTH, 2, 1, thing), False)

    def test_one_thing_changed(self):
        def changed(place, part):
            return MATE[:place] + (part,) + MATE[place + 1:]

        one, other = MATE[3][:2]
        for place, part in ((0, (4, 1)), (1, ((), ())), (1, ((1, 2), ())), (2, ((1, 1, None, True, True),)),
                            (2, (SLY_RULE,)), (3, (one, None, None)), (3, (one, (2, other[1]), None)),
                            (3, (one, (1, (1, (0,), 2, 8)), None)), (3, ((1, (0, (0,), 1, 6)), other, None)),
                            (5, (((), (), ()),)), (5, (((), (), (0, 1)),))):
            self.assertIs(is_mate_of(HALL, BOTH, 2, 1, changed(place, part)), False, part)
        for luck in ((1,), (3, 5), (1, 0, 9)):
            self.assertIs(is_mate_of(HALL, BOTH, 2, 1, changed(5, (((), (), luck),))), True)


class TestRuns(TestCase):

    def test_beside_trying_all(self):
        asked, words, again, closed = 0, set(), 0, 0
        for number in range(260):
            start, plan, last = some_hall(number)
            view = view_of(last)
            many = 1
            for own in wishes_tried(start, view):
                many *= len(own)
            if many > 60:
                continue
            asked += 1
            words.update(rule[2:] for house, rule in enumerate(start[2]) if house not in start[1][1])
            again += any(view[0][token][0][0] == "house" for _, token in view[1])
            closed += start[1][1] != ()
            self.check_mates(start, plan, view, mates(start, plan, view))
        # Of all kinds there were some.
        self.assertGreater(min(asked - 100, again, closed), 5)
        self.assertEqual({(wait is None, doubles, marks) for wait, doubles, marks in words},
                         {(wait, doubles, marks) for wait in (True, False) for doubles in (True, False)
                          for marks in (True, False)})

    def check_mates(self, start, plan, view, found):
        rows = {row for row, _ in found}
        if len(rows) > 2000:
            self.assertRaises(TooMany, mate_rows, start, plan)
            return
        self.assertEqual(mate_rows(start, plan), len(rows))
        hushed = []
        for token in range(len(view[0])):
            people = tuple(sorted({senders[token] for _, senders in found}))
            self.assertEqual(possible(start, plan, token), people)
            if traced(view, token) is not None:
                self.assertEqual(people, (traced(view, token),))
            if is_hushed(played_out(start, plan), token):
                hushed.append((len(people), token))
            for person in range(start[0][0] + 1):
                if person not in people:
                    self.assertRaises(NoPaper, mate_of, start, plan, token, person)
                    continue
                told = mate_of(start, plan, token, person)
                self.assertIs(is_mate_of(start, plan, token, person, told), True)
                self.assertEqual(view_of(played_out(told, plan)), view)
                self.assertEqual(played_out(told, plan)[6][token][0][0][0], person)
                self.assertEqual(mate_of(start, plan, token, person), told)
        if hushed:
            self.assertEqual(least_seen(start, plan), min(hushed))
        else:
            self.assertRaises(NoPaper, least_seen, start, plan)

    def test_careful_rules(self):
        for number in range(60):
            start, plan, along = some_scene(number)
            sight = sight_of(along[-1])
            if how_many(sight) > 2000:
                self.assertRaises(TooMany, mate_rows, start, plan)
                continue
            self.assertEqual(mate_rows(start, plan), how_many(sight))
            for token, told in list(enumerate(shades(sight)))[::3]:
                self.assertEqual(possible(start, plan, token), told)


class TestFindings(TestCase):

    def test_weakness(self):
        for rule in ALL_RULES:
            for want in range(2, 6):
                for bad in range(4):
                    self.assertEqual(weakness(rule, want, bad), word_for(rule, want, bad))

    def test_finding(self):
        for rule in ALL_RULES[::5] + [(6, 0, None, False, False), (1, 5, None, False, False)]:
            for want in range(2, 6):
                for bad in range(4):
                    if word_for(rule, want, bad) is None:
                        self.assertRaises(NoPaper, finding, rule, want, bad)
                    else:
                        self.check_finding(rule, want, bad, finding(rule, want, bad))

    def check_finding(self, rule, want, bad, told):
        world, plan, token = told
        self.assertIs(is_finding(rule, want, bad, told), True)
        self.assertTrue(is_begun(world) and is_plan(world, plan))
        self.assertEqual(({own for house, own in enumerate(world[2]) if house not in world[1][1]}, len(world[1][0])),
                         ({rule}, bad))
        self.assertIs(is_hushed(played_out(world, plan), token), True)
        self.assertLess(len(possible(world, plan, token)), want)
        self.assertLessEqual(mate_rows(world, plan), 2000)
        self.assertIs(is_finding(rule, want + 1, bad, told), True)
        self.assertIs(is_finding(rule, want, bad + 1, told), False)
        self.assertIs(is_finding(rule[:1] + (rule[1] + 1,) + rule[2:], want, bad, told), False)

    def test_just_one_less(self):
        # With a careful RULE that is sure of want - 1 a WORLD and a PLAN leave just so many.
        for batch in range(1, 6):
            for keep in range(6 - batch):
                for bad in range(4):
                    rule, want = (batch, keep, None, True, True), max(1, batch + keep - bad) + 1
                    world, plan, token = finding(rule, want, bad)
                    self.assertEqual(len(possible(world, plan, token)), want - 1)

    def test_nothing_is_found_without_weakness(self):
        asked = 0
        for rule in ((2, 0, None, True, True), (1, 2, None, True, True), (2, 1, None, False, True),
                     (3, 0, None, True, True), (3, 0, None, True, False)):
            for number in range(90):
                start, plan, last = some_hall(number, 6, rule)
                bad = len(start[1][0])
                # The greatest want without a weakness.
                fit = [want for want in range(2, 5) if word_for(rule, want, bad) is None][-1:]
                for token in [own for own in range(len(last[6])) if fit and is_hushed(last, own)]:
                    asked += 1
                    self.assertGreaterEqual(len(possible(start, plan, token)), fit[0])
                    self.assertIs(is_finding(rule, fit[0], bad, (start, plan, token)), False)
        self.assertGreater(asked, 100)

    def test_wrong_things(self):
        right = (SLY, FLOOD, 3)
        self.assertIs(is_finding(SLY_RULE, 2, 1, right), True)
        for thing in broken(right):
            fit = isinstance(thing, tuple) and len(thing) == 3 and is_begun(thing[0]) and is_plan(thing[0], thing[1])
            if not fit or not isinstance(thing[2], int) or isinstance(thing[2], bool):
                self.assertIs(is_finding(SLY_RULE, 2, 1, thing), False, thing)
        own = FLOOD[0][0][0]
        for thing in (None, True, 0, "", (), [], list(right), listed(right), right[:2], right + (0,), (right,),
                      (SLY, FLOOD, 0), (SLY, FLOOD, 1), (SLY, FLOOD, 2), (SLY, FLOOD, 4), (SLY, FLOOD, 5), (SLY, FLOOD, -1),
                      (SLY, FLOOD, True), (SLY, FLOOD, None), (SLY, list(FLOOD), 3), (SLY, FLOOD[:1], 3), (SLY, FLOOD[1:], 3),
                      (SLY, (((own,), ()), ((), (1, 2))), 3), (HALL, BOTH, 2), (HALL, FLOOD, 3),
                      (SLY[:3] + ((None, None, None),) + SLY[4:], FLOOD, 3), (played_out(SLY, FLOOD), FLOOD, 3)):
            self.assertIs(is_finding(SLY_RULE, 2, 1, thing), False, thing)
        # Both may have sent it: too few for three, not for two.
        self.assertIs(is_finding(EVEN, 3, 1, (HALL, BOTH, 2)), True)
        self.assertIs(is_finding(EVEN, 2, 1, (HALL, BOTH, 2)), False)

    def test_houses_of_the_rest_have_any_rule(self):
        wide = ((3, 2), ((2,), (1,)), (SLY_RULE, (1, 0, 5, False, False)), SLY[3], 0, (((), (), ()),) * 2, (), ())
        self.assertIs(is_finding(SLY_RULE, 2, 1, (wide, FLOOD, 3)), True)
        turned = wide[:1] + (((2,), ()),) + wide[2:]
        self.assertIs(is_finding(SLY_RULE, 2, 1, (turned, FLOOD, 3)), False)

    def test_too_many(self):
        rule = FULL[2][0]
        self.assertRaises(TooMany, is_finding, rule, 9, 0, (FULL, FULL_PLAN, 9))
        # All else must be so.
        for want, bad, thing in ((9, 1, (FULL, FULL_PLAN, 9)), (9, 0, (FULL, FULL_PLAN, 2)),
                                 (9, 0, (FULL, FULL_PLAN, 14)), (9, 0, (FULL, FULL_PLAN[1:], 9))):
            self.assertIs(is_finding(rule, want, bad, thing), False)
        self.assertIs(is_finding(EVEN, 9, 0, (FULL, FULL_PLAN, 9)), False)
