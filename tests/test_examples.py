"""The examples of the document, point by point, in its order and its words."""

from importlib import import_module
from unittest import TestCase

from tests.examples import run_examples
from tests.examples_finds import FINDS, GAMES, GOALS, JUDGE, LEAST, ROUNDS, SHELL, TEXTS
from tests.examples_sights import ALIKE, SHADES, SHARES, SIGHTS, SWAPS, TABLES, THREADS, VIEWS

COVERS = """
>>> net, rest = (4, 3), ((3,), (1,))
>>> letter = (0, (0, 1, 2), 3, 7)
>>> layers(letter)[3] == (letter, 3), spots_on(letter)[:2], wrapped(letter) == (letter, 0)
(True, (('person', 0), ('house', 0)), True)
>>> goes_to((letter, 1)), goes_to((letter, 3)), still_before((letter, 2)), gone_through((letter, 2)), opened_cover((letter, 2)) == (letter, 3)
(('house', 1), ('person', 3), ((2,), 3, 7), (0, (0, 1)), True)
>>> other = (2, (2,), 1, 5)
>>> with_past((letter, 2), 2, ()), rests_exchanged((letter, 2), (other, 0)), like_before((letter, 2), (other, 0))
(((2, (2,), 3, 7), 0), (((0, (0, 1, 2), 1, 5), 2), ((2, (2,), 3, 7), 0)), False)
>>> unrolled(rest, (letter, 1)) == ((letter, 1), (letter, 2)), next_mixing(rest, (letter, 1)), next_mixing(rest, (letter, 3)), word_shown(rest, (letter, 3)), word_shown(rest, (other, 1))
(True, 2, None, 7, None)
>>> is_letter(net, letter), is_letter(net, (0, (1, 0), 3, 7)), is_letter(net, (0, (), 3, 7)), is_letter(net, (4, (0,), 3, 7)), is_cover(net, (letter, 4)), is_cover(net, (letter, True))
(True, False, False, False, False, False)
>>> opened_cover((other, 1))
raises Unfit()
>>> with_past((letter, 1), 2, (1,))
raises Unfit()
"""

NETS = """
>>> all_spots((1, 2)), is_steady(rest, ("house", 1)), steady_people(net, rest), steady_houses(net, rest)
((('house', 0), ('house', 1), ('person', 0)), False, (0, 1, 2), (0, 2))
>>> all_routes((2, 2)), hidden_route(rest, (1,)), hidden_route(rest, (0, 1)), first_steady(rest, (1, 2)), first_steady(rest, (1,))
([(0,), (0, 1), (1,)], False, True, 2, None)
>>> routes_hidden(net, rest), part_hidden(net, 1), part_hidden(net, 3), least_route(net, 1), least_route(net, 3)
((6, 7), (6, 7), (0, 1), 2, None)
>>> safe_routes(net, ((0, 1), (1, 2))), shortest_safe(net, ((0, 1), (1, 2))), shortest_safe(net, ())
([(0, 1, 2), (0, 2)], (0, 2), (0,))
>>> fraction(6, -8), fraction_sum(((1, 2), (1, 3), (-5, 6))), fraction_less((1, 2), (1, 3)), fraction_times((2, 3), (3, 4)), fraction_compared((1, 3), (1, 2))
((-3, 4), (0, 1), (1, 6), (1, 2), -1)
>>> is_net((1, 0)), is_rest(net, ((), (3,))), is_spot(net, ("person", 3)), is_fraction((0, 2)), is_fraction((-1, 2))
(False, False, True, False, True)
>>> shortest_safe((2, 2), ((0, 1),))
raises NoPaper()
"""

LUCK = """
>>> picks((7, 4, 0), 5, 3), picks((), 4, 2), picks([1000000], 3, 3), unpicked((7, 4, 0), 5, 3), next_luck((3, 1)), next_luck(())
((2, 0, 1), (0, 1), (1, 0, 2), (3, 4), (3, (1,)), (0, ()))
>>> luck_for(5, (2, 0, 1)), plain_luck((7, 4, 9), 5, 3), pick_alike((2, 0, 0), (7, 4, 9), 5, 3), first_unlike_pick((2, 0, 1), (7, 4, 9), 5, 3)
((2, 0, 0), (2, 0, 0), True, 2)
>>> picks_count(5, 2), picks_count(3, 0), all_picks(3, 2), luck_number((2, 0, 1), 5, 3), luck_at(25, 5, 3)
(20, 1, [(0, 1), (0, 2), (1, 0), (1, 2), (2, 0), (2, 1)], 25, (2, 0, 1))
>>> picks((2, 0, 1), 5, 3), exchanged_luck((2, 0, 1), 5, 3, 2, 4), picks((4, 0, 2), 5, 3), picks_with(5, 3, 4, 0), part_gone(4, 2, 1)
((2, 0, 3), (4, 0, 2), (4, 0, 3), 12, (1, 2))
>>> is_luck((0, 7)), is_luck([0]), is_luck((True,)), is_luck((-1,)), is_luck(())
(True, False, False, False, True)
>>> picks((1,), 2, 3)
raises Unfit()
>>> all_picks(8, 6)
raises TooMany()
"""

BINS = """
>>> calm, hasty, loose, whose = (2, 1, None, True, True), (3, 0, 2, True, True), (1, 0, None, False, False), (4, 0, 1, 2, 0)
>>> rows = ((0, 1, 1), (4,), (2, 3), (), (0,))
>>> run = house_run(calm, (1, 2), rows, whose)
>>> run[0], [gone for own, gone in run], run[4][0]
((((0, 1), ((0, 1), (1, 1)), (1, 2)), ()), [(), (), (1, 3, 0), (), ()], ((2,), ((0, 1), (1, 1), (2, 3), (3, 3)), ()))
>>> early, late = run[0][0], run[2][0]
>>> refuses(calm, early, 1, whose), refuses(calm, early, 4, whose), refuses(loose, early, 1, whose), still_wanted(calm, early), senders_lying(early, whose)
(True, True, False, 1, (0, 4))
>>> gone_from(late), taken_last(late, 2), must_go(calm, late, 9), run_luck(calm, rows, whose, ((), (), (3, 0, 1), (), ()))
((0, 1, 3), 3, 0, (3, 0, 0))
>>> [gone for own, gone in house_run(hasty, (), ((0,), (1,), (), (2,)), whose)], goes_by_wait(hasty, early), let_go(hasty, ((0, 1), ((0, 1), (1, 2)), (9,)), 3)
([(), (), (0, 1), ()], 3, (((), ((0, 1), (1, 2)), ()), (1, 0)))
>>> house_run(loose, (), ((1,), (1, 4)), whose)[1], is_bin(late), is_bin(((2, 1), late[1], ())), is_careful(calm), is_careful(hasty)
((((), ((1, 1), (1, 2), (4, 2)), ()), (1, 4)), True, False, True, False)
>>> taken_first(late, 4)
raises NoToken(token=4)
>>> run_luck(calm, rows, whose, ((0,), (), (), (), ()))
raises Unfit()
"""

WORLDS = """
>>> one, two, own = (0, (0, 1), 1, 5), (1, (0,), 2, 6), (2, (1,), 0, 9)
>>> rules = ((2, 0, None, True, True), (1, 0, None, True, True))
>>> start = begun_world((3, 2), ((2,), ()), rules, ((1, one), (1, two), None), ((1,), ()))
>>> start[4:], is_begun(start), is_wishes((3, 2), ((2,), ()), start[3]), is_wishes((3, 2), ((1,), ()), start[3])
((0, (((), (), (1,)), ((), (), ())), (), ()), True, True, False)
>>> first = next_world(start, ((), ()))
>>> first[6] == (((one, 0), ("person", 0), 1), ((two, 0), ("person", 1), 1)), in_reach(first), is_begun(first)
(True, (0, 1), False)
>>> second = next_world(first, ((), (0, 1)))
>>> second[5][0], second[6][2:] == (((two, 1), ("house", 0), 2), ((one, 1), ("house", 0), 2)), how_full(second)
(((), ((0, 2), (1, 2)), ()), True, (0, 0))
>>> came_of(second, 2), went_on(second, 0), spot_for(second, 2), taken_at(second, 0), road_token(second, (one, 2)), in_reach(second)
(1, 3, ('person', 2), (2,), None, (0, 1, 3))
>>> [is_choice(second, own_one) for own_one in (((), (3, 0)), ((), (2,)), ((own,), ()), ((one,), ()))]
[True, False, True, False]
>>> third = next_world(second, ((own,), (3, 0, 3)))
>>> new_on_roads(second, ((own,), (3, 0, 3))) == ((((own, 0), ("person", 2), 3), ((one, 2), ("house", 1), 3)), ())
True
>>> third[5][1], third[7], next_world(third, ((own, own), ()))[7], is_lying(third, 3)
(((), ((3, 3),), ()), (), ((4, 4), (4, 4)), False)
>>> next_world(second, ((), (2,)))
raises Unfit()
>>> went_on(second, 4)
raises NoToken(token=4)
"""

PLANS = """
>>> plan = (((), ()), ((), (0, 1)), ((), (3, 0)), ((), (4,)))
>>> is_plan(start, plan), first_unfit(start, plan), first_unfit(start, plan[:1] + plan[2:]), first_unfit(start, (None,)), is_plan(start, list(plan))
(True, None, 1, 0, False)
>>> [own[4] for own in played(start, plan)], played_out(start, plan[:2]) == second, played(start, ()) == [start]
([0, 1, 2, 3, 4], True, True)
>>> prompt(second), prompt_plan(start, 4)
(((), (3,)), (((), ()), ((), (0, 1)), ((), (3,)), ((), (4,))))
>>> idle_comes(start, plan), without_idle(start, plan)
(((2, 1), (3, 0)), (((), ()), ((), (0, 1)), ((), (3,)), ((), ())))
>>> home_behind(start, plan[:3]) == (two,), home_behind(start, plan) == (one, two), letters_on(start, plan[:1]) == (one, two)
(True, True, True)
>>> all_home_by(start, 9), fullest(start, plan), fullest(start, (((), ()), ((), (0,))))
(4, 0, 1)
>>> all_home_by(start, 3)
raises NoPaper()
>>> played_out(start, (((), (0,)),))
raises Unfit()
"""

SECTIONS = (("covers", COVERS), ("nets", NETS), ("luck", LUCK), ("bins", BINS), ("worlds", WORLDS), ("plans", PLANS),
            ("views", VIEWS), ("sights", SIGHTS), ("threads", THREADS), ("swaps", SWAPS), ("shades", SHADES),
            ("shares", SHARES), ("tables", TABLES), ("alike", ALIKE), ("least", LEAST),
            ("finds", FINDS), ("games", GAMES), ("rounds", ROUNDS), ("goals", GOALS), ("judge", JUDGE),
            ("texts", TEXTS), ("shell", SHELL))


def names_of(files):
    """All names of these files of the package."""
    names = {}
    for file in files:
        names.update(vars(import_module(f"sendershade.{file}")))
    return names


class TestExamples(TestCase):

    def test_examples(self):
        # Names in an example may be those of an example ahead, in another section.
        names = names_of([file for file, _ in SECTIONS])
        for file, text in SECTIONS:
            with self.subTest(file):
                run_examples(self, text, names)
