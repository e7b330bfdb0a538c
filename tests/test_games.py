"""One house as a game: STANDS and TURNS beside all that may be one, values beside all PLAYS, PLAYS beside WORLDS."""

from itertools import product
from unittest import TestCase

from sendershade.errors import NoPaper, Unfit
from sendershade.games import (after_turn, best_found, finds_of, found_table, is_play, is_play_world, is_stand,
                               is_sure_move, play_world, sure_found, sure_move, turns_at)
from sendershade.plans import is_plan, played, played_out
from sendershade.shades import shades
from sendershade.sights import sight_of
from sendershade.worlds import is_begun
from tests.calls_finds import PLAY, PLAY_WORLD
from tests.values import broken, check_described, listed

# batch, keep, people, bad.
SMALL = [(batch, keep, people, bad) for batch in (1, 2, 3) for keep in (0, 1, 2) for people in (0, 1, 2, 3)
         for bad in (0, 1, 2)]
STANDS = [(waiting, unsent, since, hidden, own) for waiting in range(3) for unsent in range(3) for since in range(4)
          for hidden in range(since + 1) for own in range(3) if hidden or not since]


def plain_turns(batch, keep, stand):
    """All TURNS at a STAND, letter by letter."""
    waiting, unsent, _, hidden, own = stand
    told = []
    for i, j, gone in product(range(waiting + 1), range(unsent + 1), range(hidden + waiting + 1)):
        steady, others = hidden + i, own + j
        if i + j == 0:
            continue
        if steady + others < batch + keep:
            fit = gone == 0
        else:
            fit = gone <= steady and 0 <= steady + others - keep - gone <= others
        if fit:
            told.append((i, j, gone))
    return told


def plain_after(batch, keep, stand, turn):
    waiting, unsent, since, hidden, own = stand
    i, j, gone = turn
    lying = hidden + i + own + j
    went = lying - keep if lying >= batch + keep else 0
    left = hidden + i - gone
    later = (waiting - i, unsent - j, 0 if left == 0 else since + i, left, own + j - (went - gone))
    return later, None if gone == 0 else since + i


def all_plays(batch, keep, stand):
    """Pairs of all rows of TURNS from a STAND on, and of what they find."""
    told = [((), ())]
    for turn in plain_turns(batch, keep, stand):
        later, found = plain_after(batch, keep, stand, turn)
        told += [((turn,) + row, (found,) + finds) for row, finds in all_plays(batch, keep, later)]
    return told


def can_force(batch, keep, stand, many):
    """Whether the rest can find many or less, whatever goes."""
    for move in {turn[:2] for turn in plain_turns(batch, keep, stand)}:
        ends = [plain_after(batch, keep, stand, turn) for turn in plain_turns(batch, keep, stand) if turn[:2] == move]
        if all((found is not None and found <= many) or can_force(batch, keep, later, many) for later, found in ends):
            return True
    return False


def force(batch, keep, stand):
    """The least that the rest can force."""
    return ([many for many in range(12) if can_force(batch, keep, stand, many)] + [None])[0]


class TestStands(TestCase):

    def test_is_stand(self):
        check_described(self, is_stand, [(1, 1, 0, 0, 0), (0, 0, 3, 2, 1), (9, 8, 7, 7, 6)],
                        [(1, 1, 0, 0, 0), (0, 0, 3, 2, 1)])
        for thing in ((1, 1, 1, 0, 0), (1, 1, 1, 2, 0), (1, 1, 0, 1, 0), (1, 1, 1, 1), (1, 1, 1, 1, 1, 1),
                      (1, 1, 1, 1, -1), (1, 1, True, 1, 0), (-1, 1, 1, 1, 0), [1, 1, 1, 1, 0], None, (None,) * 5, ""):
            self.assertIs(is_stand(thing), False, thing)
        for thing in product(range(-1, 3), repeat=5):
            known = min(thing) >= 0 and thing[3] <= thing[2] and (thing[3] > 0 or thing[2] == 0)
            self.assertIs(is_stand(thing), known)

    def test_turns(self):
        for stand in STANDS:
            for batch, keep in ((1, 0), (2, 0), (1, 2), (2, 1), (3, 2)):
                told = plain_turns(batch, keep, stand)
                self.assertEqual(turns_at(batch, keep, stand), tuple(sorted(told)))
                for turn in told:
                    later, found = after_turn(batch, keep, stand, turn)
                    self.assertEqual((later, found), plain_after(batch, keep, stand, turn))
                    self.assertIs(is_stand(later), True)
                for turn in product(range(-1, 4), repeat=3):
                    if turn not in told:
                        self.assertRaises(Unfit, after_turn, batch, keep, stand, turn)

    def test_nothing_left(self):
        for stand in ((0, 0, 0, 0, 0), (0, 0, 3, 2, 1)):
            self.assertEqual(turns_at(2, 0, stand), ())
            self.assertEqual((best_found(2, 0, stand), sure_found(2, 0, stand)), (None, None))
            self.assertRaises(NoPaper, sure_move, 2, 0, stand, 99)
            self.assertIs(is_sure_move(2, 0, stand, 99, (0, 0)), False)


class TestValues(TestCase):

    def test_beside_all_plays(self):
        for batch, keep, people, bad in SMALL:
            stand = (people, bad, 0, 0, 0)
            finds = [found for _, row in all_plays(batch, keep, stand) for found in row if found is not None]
            best, sure = best_found(batch, keep, stand), sure_found(batch, keep, stand)
            self.assertEqual((best, sure), (min(finds, default=None), force(batch, keep, stand)))

    def test_from_any_stand(self):
        for stand in STANDS[::4]:
            for batch, keep in ((2, 0), (1, 1), (2, 2)):
                finds = [found for _, row in all_plays(batch, keep, stand) for found in row if found is not None]
                self.assertEqual(best_found(batch, keep, stand), min(finds, default=None))
                self.assertEqual(sure_found(batch, keep, stand), force(batch, keep, stand))

    def test_what_is_promised(self):
        for batch, keep, people, bad in product(range(1, 7), range(5), range(7), range(0, 5, 2)):
            stand = (people, bad, 0, 0, 0)
            best, sure = max(1, batch + keep - bad), max(keep + 1, batch + keep - bad)
            self.assertEqual(best_found(batch, keep, stand), best if people >= best else None)
            self.assertEqual(sure_found(batch, keep, stand), sure if people >= sure else None)

    def test_sure_moves(self):
        for batch, keep, people, bad in SMALL:
            stand = (people, bad, 0, 0, 0)
            sure = sure_found(batch, keep, stand)
            for many in range(6):
                fit = []
                for move in product(range(people + 1), range(bad + 1)):
                    turns = [turn for turn in plain_turns(batch, keep, stand) if turn[:2] == move]
                    ends = [plain_after(batch, keep, stand, turn) for turn in turns]
                    if ends and all((found is not None and found <= many) or can_force(batch, keep, later, many)
                                    for later, found in ends):
                        fit.append(move)
                    self.assertIs(is_sure_move(batch, keep, stand, many, move), move in fit)
                if fit:
                    self.assertIn(sure_move(batch, keep, stand, many), fit)
                else:
                    self.assertRaises(NoPaper, sure_move, batch, keep, stand, many)
                self.assertIs(bool(fit), sure is not None and sure <= many)

    def test_wrong_moves(self):
        stand = (2, 1, 0, 0, 0)
        self.assertIs(is_sure_move(2, 0, stand, 2, (2, 0)), True)
        for thing in broken((2, 0), [(2, 1)]) + [(3, 0), (2, 2), (0, 0), (-1, 1), (1, -1), (2, 0, 0), (2,), [2, 0], (True, 0)]:
            self.assertIs(is_sure_move(2, 0, stand, 2, thing), False, thing)

    def test_found_table(self):
        for batch, keep, people, bad in SMALL:
            first = (people, bad, 0, 0, 0)
            stands = {first}
            for row, _ in all_plays(batch, keep, first):
                stand = first
                for turn in row:
                    stand, _ = plain_after(batch, keep, stand, turn)
                stands.add(stand)
            told = found_table(batch, keep, people, bad)
            self.assertEqual([row[0] for row in told], sorted(stands))
            for stand, best, sure in told[::5]:
                self.assertEqual((best, sure), (best_found(batch, keep, stand), sure_found(batch, keep, stand)))

    def test_somewhat_beyond(self):
        self.assertEqual((best_found(5, 3, (8, 6, 0, 0, 0)), sure_found(5, 3, (8, 6, 0, 0, 0))), (2, 4))


class TestPlays(TestCase):

    def test_all_plays(self):
        for batch, keep, people, bad in SMALL:
            plays = dict(all_plays(batch, keep, (people, bad, 0, 0, 0)))
            for row, finds in list(plays.items())[::9]:
                self.assertIs(is_play(batch, keep, people, bad, row), True)
                self.assertEqual(finds_of(batch, keep, people, bad, row), finds)
                for place, (i, j, gone) in enumerate(row):
                    for turn in ((i + 1, j, gone), (i, j + 1, gone), (i, j, gone + 1), (i, j, gone - 1), (0, 0, 0)):
                        thing = row[:place] + (turn,)
                        known = thing in plays
                        self.assertIs(is_play(batch, keep, people, bad, thing), known)
                        if not known:
                            self.assertRaises(Unfit, finds_of, batch, keep, people, bad, thing)
                            self.assertRaises(Unfit, play_world, batch, keep, max(people, 1), bad, thing + row + thing)

    def test_empty_play(self):
        for people in (0, 3):
            self.assertIs(is_play(2, 0, people, 1, ()), True)
            self.assertEqual(finds_of(2, 0, people, 1, ()), ())
        world, plan = play_world(2, 0, 3, 1, ())
        self.assertEqual((len(plan), world[0], world[1]), (1, (4, 1), ((3,), ())))
        self.assertIs(is_play_world(2, 0, 3, 1, (), (world, plan)), True)

    def test_wrong_plays(self):
        self.assertIs(is_play(2, 0, 2, 1, PLAY), True)
        for thing in broken(PLAY, [(), PLAY[:-1]]) + [PLAY + PLAY, PLAY[1:], PLAY[::-1], list(PLAY), listed(PLAY),
                                               ((1, 0, False), (0, 1, 1)), ((True, 0, 0), (0, 1, 1)), ((1, 0), (0, 1)),
                                               ((1, 0, 0, 0), (0, 1, 1)), ((1, 0, 0), (0, 1, 2))]:
            self.assertIs(is_play(2, 0, 2, 1, thing), False, thing)


class TestPlayWorlds(TestCase):

    def check_world(self, batch, keep, people, bad, play, finds):
        told = play_world(batch, keep, people, bad, play)
        world, plan = told
        self.assertIs(is_play_world(batch, keep, people, bad, play, told), True)
        self.assertTrue(is_begun(world) and is_plan(world, plan))
        self.assertEqual(world[:3], ((people + bad, 1), (tuple(range(people, people + bad)), ()),
                                     ((batch, keep, None, True, True),)))
        self.assertEqual(len(plan), len(play) + 1)
        last = played_out(world, plan)
        sight = sight_of(last)
        many = [len(own) for own in shades(sight)]
        for moment, ((i, j, gone), found) in enumerate(zip(play, finds)):
            taken = [last[6][token][0][0][0] < people for token, then in last[5][0][1] if then == moment + 2]
            self.assertEqual((taken.count(True), taken.count(False)), (i, j))
            hushed = [token for token, (cover, spot, sent) in enumerate(last[6])
                      if spot == ("house", 0) and sent == moment + 2 and cover[0][0] < people]
            self.assertEqual(len(hushed), gone)
            self.assertEqual({many[token] for token in hushed}, {found} if gone else set())

    def test_each_play_is_a_world(self):
        for batch, keep, people, bad in SMALL:
            if people > 0:
                for play, finds in all_plays(batch, keep, (people, bad, 0, 0, 0))[::11]:
                    self.check_world(batch, keep, people, bad, play, finds)
        for play, finds in all_plays(2, 1, (4, 2, 0, 0, 0))[::997]:
            self.check_world(2, 1, 4, 2, play, finds)

    def test_greatest(self):
        play = ((6, 4, 5),)
        self.check_world(3, 1, 6, 4, play, (6,))
        play = tuple((1, 0, 1) for _ in range(6)) + ((0, 4, 0),)
        self.check_world(1, 0, 6, 4, play, (1,) * 6 + (None,))

    def test_is_play_world(self):
        self.assertIs(is_play_world(2, 0, 2, 1, PLAY, PLAY_WORLD), True)
        for batch, keep, people, bad in ((3, 0, 3, 0), (2, 0, 1, 0), (3, 0, 2, 1)):
            self.assertRaises(Unfit, is_play_world, batch, keep, people, bad, PLAY, PLAY_WORLD)
        for batch, keep, people, bad in ((1, 1, 2, 1), (2, 0, 2, 2), (2, 0, 3, 1)):
            if is_play(batch, keep, people, bad, PLAY):
                self.assertIs(is_play_world(batch, keep, people, bad, PLAY, PLAY_WORLD), False)
        for play, known in ((((0, 1, 0), (1, 0, 1)), False), (((1, 0, 0),), False), (((1, 1, 1),), False), ((), False),
                            (PLAY + ((1, 0, 0),), False), (PLAY, True)):
            self.assertIs(is_play_world(2, 0, 2, 1, play, PLAY_WORLD), known)
        self.assertRaises(Unfit, is_play_world, 2, 0, 2, 1, ((1, 0, 1),), None)

    def test_which_one_is_free(self):
        # Other letters, other steady ones, one more LETTER of the rest, idle TOKENS: it is one, too.
        world, plan = PLAY_WORLD
        wishes = ((1, (0, (0,), 2, 9)), (1, (1, (0,), 2, 4)), None)
        other = world[:3] + (wishes, 0, (((), (), (3, 7)),), (), ())
        own = plan[0][0] + ((2, (0,), 1, 1),)
        for thing, known in (((other, plan), True), ((other, (plan[0], ((), (2,)), ((), (0, 0, 2)))), True),
                             ((other, ((own, ()), ((), (3,)), ((), (1,)))), True),
                             ((other, ((own, ()), ((), (3,)), ((), (1, 0)))), True),
                             ((other, (plan[0], ((), (0,)), ((), (1,)))), False),
                             ((other, (plan[0], ((), (1, 2)), ((), (0,)))), False),
                             ((other, plan + (((), ()),)), False), ((other, plan[:2]), False)):
            self.assertIs(is_play_world(2, 0, 2, 1, PLAY, thing), known, thing)

    def test_wrong_things(self):
        world, plan = PLAY_WORLD
        for thing in broken(PLAY_WORLD):
            if not isinstance(thing, tuple) or len(thing) != 2 or not is_begun(thing[0]) or not is_plan(*thing):
                self.assertIs(is_play_world(2, 0, 2, 1, PLAY, thing), False, thing)
        for place, part in ((0, (4, 1)), (0, (3, 2)), (1, ((0,), ())), (1, ((1,), ())), (2, ((1, 1, None, True, True),)),
                            (2, ((2, 0, 9, True, True),)), (2, ((2, 0, None, True, False),)), (4, 1)):
            thing = world[:place] + (part,) + world[place + 1:]
            self.assertIs(is_play_world(2, 0, 2, 1, PLAY, (thing, plan)), False, part)
        for thing in (None, True, 0, "", (), [], world, (world,), (plan, world), (world, None), list(PLAY_WORLD),
                      listed(PLAY_WORLD), (world, list(plan)), (played(world, plan)[1], plan)):
            self.assertIs(is_play_world(2, 0, 2, 1, PLAY, thing), False)
