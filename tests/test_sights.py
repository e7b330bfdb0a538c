"""SIGHTS: of played WORLDS, ins and outs, what lies ahead and behind; what is a SIGHT, asked of many wrong ones."""

from unittest import TestCase

from sendershade.errors import NoToken, Unfit
from sendershade.plans import played, played_out
from sendershade.sights import (all_outs, come_home, emptied, ins_of, is_known, is_sight, known_tokens, least_lying,
                                lies_ahead, lying_behind, outs_of, sent_by, sight_at, sight_of)
from sendershade.worlds import begun_world
from tests.model import spot_of
from tests.plain import sight_form
from tests.scenes import other_parts, rows_changed, some_scene, some_sight, some_sights
from tests.values import broken, listed

RULES, NOTE, MINE, OTHER = ((3, 0, None, True, True),) * 2, (2, (0,), 1, 9), (0, (0, 1), 2, 5), (1, (0,), 0, 7)
NET, REST = (3, 2), ((2,), (1,))
START = begun_world(NET, REST, RULES, ((1, MINE), (1, OTHER), None), ((2, 0), ()))
PLAN = (((NOTE,), ()), ((), (0, 1, 2)))
HOME, BAD = ("house", 0), ("house", 1)
ZERO, ONE, TWO = ("person", 0), ("person", 1), ("person", 2)
SIGHT = ((TWO, HOME, 1, 2, ("own", NOTE, 0)), (ZERO, HOME, 1, 2, None), (ONE, HOME, 1, 2, None),
         (HOME, ZERO, 2, None, None), (HOME, ONE, 2, None, ("own", NOTE, 1)), (HOME, BAD, 2, None, None),
         (BAD, TWO, 2, None, ("opened", 5)))


def plain_sight(world):
    """The SIGHT, PASSING by PASSING as [3] tells it."""
    rest, covers = world[1], [row[0] for row in world[6]]
    rows = []
    for token, ((letter, place), spot, sent) in enumerate(world[6]):
        goal, came, tag = spot_of((letter, place)), None, None
        if goal[0] == "house" and goal[1] not in rest[1]:
            came = dict(world[5][goal[1]][1]).get(token)
        if letter[0] in rest[0]:
            tag = ("own", letter, place)
        elif spot[0] == "house" and spot[1] in rest[1]:
            tag = ("opened", covers.index((letter, place - 1)))
        rows.append((spot, goal, sent, came, tag))
    return tuple(rows)


class TestTold(TestCase):

    def test_sight(self):
        self.assertEqual(sight_of(played_out(START, PLAN)), SIGHT)
        self.assertEqual(sight_of(START), ())
        early = sight_of(played_out(START, PLAN[:1]))
        self.assertEqual(early, tuple(row[:3] + (None,) + row[4:] for row in SIGHT[:3]))

    def test_unfit_world(self):
        for rule in ((3, 0, 2, True, True), (3, 0, None, False, True), (3, 0, None, True, False)):
            for rules, known in (((rule, RULES[1]), False), ((RULES[0], rule), True)):
                world = START[:2] + (rules,) + START[3:]
                if known:
                    # What RULE a HOUSE of the rest has is of no matter.
                    self.assertEqual(sight_of(played_out(world, PLAN)), SIGHT)
                else:
                    self.assertRaises(Unfit, sight_of, world)
                    self.assertRaises(Unfit, sight_of, played_out(world, PLAN))

    def test_empty(self):
        self.assertEqual([call(()) for call in (known_tokens, all_outs, come_home)], [()] * 3)
        self.assertEqual([call((), 0) for call in (ins_of, outs_of, emptied)], [()] * 3)
        self.assertEqual((sent_by((), 0), least_lying(())), (None, None))
        self.assertEqual((lying_behind((), 0, 1), sight_at((), 5)), (0, ()))
        self.assertIs(is_sight(NET, REST, ()), True)
        for call in (is_known, lies_ahead):
            self.assertRaises(NoToken, call, (), 0)

    def test_known(self):
        self.assertEqual([token for token in range(7) if is_known(SIGHT, token)], [0, 4])
        self.assertEqual([is_known(SIGHT, token) for token in (0, 1)], [True, False])
        self.assertEqual((known_tokens(SIGHT), known_tokens(SIGHT[:4])), ((0, 4), (0,)))

    def test_ins_and_outs(self):
        self.assertEqual([ins_of(SIGHT, house) for house in (0, 1, 2, 99)], [(1, 2), (), (), ()])
        self.assertEqual([outs_of(SIGHT, house) for house in (0, 1, 2, 99)], [(3, 5), (), (), ()])
        self.assertEqual((all_outs(SIGHT), all_outs(SIGHT[:3]), come_home(SIGHT)), ((3, 5), (), (3, 6)))
        self.assertEqual([sent_by(SIGHT, person) for person in (0, 1, 2, 99)], [1, 2, None, None])

    def test_not_taken(self):
        sight = SIGHT[:1] + ((ZERO, HOME, 1, None, None),) + SIGHT[2:4]
        self.assertIs(is_sight(NET, REST, sight), True)
        self.assertEqual((ins_of(sight, 0), sent_by(sight, 0)), ((2,), 1))
        self.assertEqual((lies_ahead(sight, 3), emptied(sight, 0)), (1, (2,)))

    def test_lies_ahead(self):
        self.assertEqual([lies_ahead(SIGHT, token) for token in (3, 5)], [2, 1])
        self.assertEqual((least_lying(SIGHT), least_lying(SIGHT[:4]), least_lying(SIGHT[:3])), (1, 2, None))
        for token in (0, 1, 2, 4, 6):
            self.assertRaises(Unfit, lies_ahead, SIGHT, token)
        for token in (-1, 7, 99):
            for call in (lies_ahead, is_known):
                with self.assertRaises(NoToken) as caught:
                    call(SIGHT, token)
                self.assertEqual(caught.exception.token, token)

    def test_behind(self):
        self.assertEqual([lying_behind(SIGHT, 0, moment) for moment in (0, 1, 2, 3, 99)], [0] * 5)
        self.assertEqual([lying_behind(SIGHT[:4], 0, moment) for moment in (0, 1, 2, 99)], [0, 0, 1, 1])
        self.assertEqual([lying_behind(SIGHT, house, 9) for house in (1, 2)], [0, 0])
        self.assertEqual([emptied(SIGHT, house) for house in (0, 1, 2)], [(2,), (), ()])
        self.assertEqual(emptied(SIGHT[:4], 0), ())

    def test_emptied_twice(self):
        rows = ((ZERO, HOME, 1, 2, None), (HOME, ZERO, 2, None, None), (ONE, HOME, 2, 3, None),
                (TWO, HOME, 2, 4, None), (HOME, ONE, 3, None, None), (HOME, ONE, 5, None, None))
        self.assertEqual((emptied(rows, 0), emptied(rows[:5], 0)), ((2, 3, 5), (2, 3)))
        self.assertEqual([lying_behind(rows, 0, moment) for moment in range(1, 6)], [0, 0, 0, 1, 0])

    def test_at(self):
        self.assertEqual([sight_at(SIGHT, moment) for moment in (0, 2, 9)], [(), SIGHT, SIGHT])
        self.assertEqual(sight_at(SIGHT, 1), tuple(row[:3] + (None,) + row[4:] for row in SIGHT[:3]))


class TestIsSight(TestCase):

    def check(self, net, rest, thing):
        self.assertIs(is_sight(net, rest, thing), sight_form(net, rest, thing), (net, rest, thing))

    def put(self, place, way, part, rows=SIGHT):
        return rows[:place] + (rows[place][:way] + (part,) + rows[place][way + 1:],) + rows[place + 1:]

    def test_wrong_things(self):
        self.assertIs(is_sight(NET, REST, SIGHT), True)
        for thing in (None, True, 1, "", "ab", [], ((),), (None,), list(SIGHT), listed(SIGHT), (SIGHT,), {}, "()",
                      (list(SIGHT[1]),), (SIGHT[1][:4],), (SIGHT[1] + (None,),)):
            self.assertIs(is_sight(NET, REST, thing), False, thing)
        for thing in broken(SIGHT):
            self.check(NET, REST, thing)

    def test_other_nets(self):
        for net, rest, known in (((3, 2), ((2,), (1,)), True), ((9, 9), REST, True), ((2, 2), REST, False),
                                 ((3, 1), REST, False), (NET, ((2,), ()), False), (NET, ((), (1,)), False),
                                 (NET, ((1, 2), (1,)), False), (NET, ((2,), (0, 1)), False)):
            self.assertIs(is_sight(net, rest, SIGHT), known, (net, rest))

    def test_table(self):
        for place, way, part in ((1, 3, 1), (1, 3, True), (1, 3, "2"), (3, 3, 4), (5, 3, 4), (1, 1, ONE),
                                 (1, 1, HOME[:1]), (3, 1, HOME), (5, 1, HOME), (0, 4, ("own", NOTE, 1)), (0, 4, None),
                                 (0, 4, ("opened", 0)), (0, 3, None), (0, 3, 3), (4, 4, ("own", NOTE, 2)), (4, 1, TWO),
                                 (6, 4, None), (6, 4, ("opened", 4)), (6, 4, ("opened", 5, 5)), (6, 0, HOME),
                                 (6, 2, 3), (5, 1, TWO), (2, 0, ZERO), (2, 0, TWO), (2, 3, None), (2, 3, 3),
                                 (0, 2, 2), (0, 2, 0), (3, 4, ("opened", 2)), (1, 4, ("own", NOTE, 0))):
            self.assertIs(is_sight(NET, REST, self.put(place, way, part)), False, (place, way, part))
        for place, way, part in ((0, 3, 2), (6, 1, ZERO), (3, 1, ONE), (1, 1, HOME), (3, 1, TWO)):
            self.assertIs(is_sight(NET, REST, self.put(place, way, part)), True, (place, way, part))

    def test_own_tags_in_time(self):
        letter = (2, (0,), 1, 9)
        rows = ((TWO, HOME, 1, 3, ("own", letter, 0)), (HOME, ONE, 3, None, ("own", letter, 1)))
        for sight, known in ((rows, True), (rows[:1], True), (rows[1:], False), (self.put(0, 3, None, rows), False),
                             (self.put(0, 3, 4, rows), False), (self.put(0, 3, 2, rows), True),
                             (self.put(1, 2, 9, rows), True), (rows + rows[1:], False)):
            self.assertIs(is_sight(NET, REST, sight), known, sight)

    def test_own_through_the_rest(self):
        letter = (2, (0, 1), 0, 4)
        rows = ((TWO, HOME, 1, 2, ("own", letter, 0)), (HOME, BAD, 2, None, ("own", letter, 1)),
                (BAD, ZERO, 2, None, ("own", letter, 2)))
        for sight, known in ((rows, True), (rows[:2], False), (self.put(2, 4, ("opened", 1), rows), False),
                             (self.put(2, 2, 3, rows), False),
                             (rows[:2] + ((ZERO, HOME, 2, None, None),) + rows[2:], False)):
            self.assertIs(is_sight(NET, REST, sight), known, sight)

    def test_changed_ones(self):
        for net, rest, sight in some_sights(25):
            self.check(net, rest, sight)
            for other in rows_changed(sight, other_parts):
                self.check(net, rest, other)


class TestRuns(TestCase):

    def test_beside_the_words(self):
        for number in range(150):
            start, plan, along = some_scene(number)
            last = sight_of(along[-1])
            for moment, world in enumerate(along):
                sight = sight_of(world)
                self.assertEqual(sight, plain_sight(world))
                self.assertIs(is_sight(start[0], start[1], sight), True)
                self.assertEqual(sight_at(last, moment), sight)
            self.assertEqual(played(start, plan), along)
            self.check_lying(along)

    def check_lying(self, along):
        last = along[-1]
        sight = sight_of(last)
        for house in range(last[0][1]):
            steady = house not in last[1][1]
            taken = {token: moment for token, moment in last[5][house][1] if steady}
            outs = [token for token, row in enumerate(last[6]) if row[1] == ("house", house) and steady]
            mine = [token for token, row in enumerate(last[6]) if row[0][0][0] in last[1][0]]
            self.assertEqual(ins_of(sight, house), tuple(sorted(set(taken) - set(mine))))
            self.assertEqual(outs_of(sight, house), tuple(sorted(set(outs) - set(mine))))
            for moment, world in enumerate(along):
                hidden = [token for token in world[5][house][0] if token not in mine]
                self.assertEqual(lying_behind(sight, house, moment), len(hidden))
                gone = [token for token in outs if last[6][token][2] == moment and token not in mine]
                self.assertIs(moment in emptied(sight, house), bool(gone) and not hidden)

    def test_of_any_form(self):
        for number in range(300):
            net, rest, sight = some_sight(number)
            self.assertIs(is_sight(net, rest, sight), True)
            aheads = []
            for token in all_outs(sight):
                spot, _, sent = sight[token][:3]
                ins = [own for own in ins_of(sight, spot[1]) if sight[own][3] <= sent]
                aheads.append(len(ins) - len([own for own in outs_of(sight, spot[1]) if own < token]))
                self.assertEqual(lies_ahead(sight, token), aheads[-1])
                self.assertGreaterEqual(aheads[-1], 1)
            self.assertEqual(least_lying(sight), min(aheads, default=None))
            self.assertEqual(sorted(all_outs(sight)), sorted(own for house in range(net[1])
                                                             for own in outs_of(sight, house)))
            for moment in range(12):
                self.assertIs(is_sight(net, rest, sight_at(sight, moment)), True)
            known = known_tokens(sight)
            self.assertEqual(known, tuple(token for token in range(len(sight)) if is_known(sight, token)))
            self.assertEqual(come_home(sight), tuple(token for token, row in enumerate(sight)
                                                     if token not in known and row[1][0] == "person"))
            for person in range(net[0]):
                tokens = [token for token, row in enumerate(sight) if row[0] == ("person", person)
                          and token not in known]
                self.assertEqual([sent_by(sight, person)], tokens or [None])
