"""The interface: names, files, parameters; and what holds for the call of every function."""

from copy import deepcopy
from importlib import import_module
from inspect import isclass, isfunction, signature
from random import Random
from unittest import TestCase

from tests.calls import CALLS as FIRST_CALLS
from tests.calls_finds import FIND_CALLS
from tests.calls_shades import SHADE_CALLS
from tests.calls_shell import SHELL_CALLS
from tests.calls_sights import SIGHT_CALLS
from tests.values import changed, listed, only_tuples, parts_of

CALLS = {**FIRST_CALLS, **SIGHT_CALLS, **SHADE_CALLS, **FIND_CALLS, **SHELL_CALLS}

ERRORS = ("NoToken", "NoWord", "NothingDone", "Unfit", "NoPaper", "TooMany", "BadText", "BadLine")

# As the document lists them, so that a name that is missing from tests.calls is found, too.
NAMES = {
    "covers": "is_letter, is_cover, wrapped, layers, spots_on, goes_to, opened_cover, still_before, gone_through, "
              "like_before, with_past, rests_exchanged, unrolled, next_mixing, word_shown",
    "nets": "is_net, is_rest, is_spot, all_spots, is_steady, steady_people, steady_houses, all_routes, hidden_route, "
            "first_steady, routes_hidden, part_hidden, least_route, safe_routes, shortest_safe, is_fraction, fraction, "
            "fraction_sum, fraction_less, fraction_times, fraction_compared",
    "luck": "is_luck, next_luck, picks, unpicked, picks_count, luck_for, plain_luck, pick_alike, first_unlike_pick, "
            "luck_number, luck_at, all_picks, exchanged_luck, picks_with, part_gone",
    "bins": "is_rule, is_careful, is_bin, empty_bin, refuses, put_in, must_go, let_go, house_moment, house_run, "
            "taken_first, taken_last, gone_from, still_wanted, goes_by_wait, senders_lying, run_luck",
    "worlds": "is_wishes, is_begun, begun_world, is_choice, in_reach, next_world, new_on_roads, road_token, spot_for, "
              "came_of, went_on, taken_at, is_lying, how_full",
    "plans": "is_plan, first_unfit, played, played_out, prompt, prompt_plan, idle_comes, without_idle, letters_on, "
             "home_behind, all_home_by, fullest",
    "views": "tag_of, view_of, views_along, view_till, first_parted, same_view, is_view, seen_at, hidden_in, "
             "told_words, own_letters, row_links, row_ends",
    "sights": "is_sight, sight_of, is_known, known_tokens, ins_of, outs_of, all_outs, sent_by, come_home, lies_ahead, "
              "least_lying, lying_behind, emptied, sight_at",
    "threads": "is_threading, true_threading, how_many, all_threadings, first_threading, threading_at, number_of, "
               "free_for, goes_on, way_back, sender_of, way_on, still_lying, homes, threadings_from",
    "swaps": "lie_together, swaps_of, swapped, swapped_by, unlike_outs, steps_apart, swap_row, is_swap_row, "
             "first_swaps, ever_together, always_together, heaps, heap_of, heap_outs, heap_ways",
    "shades": "may_come, sources, becomes, shade, shades, sure_sender, is_chain, chain, chain_count, threading_with, "
              "cut, is_cut, shades_apart, thinnest",
    "shares": "share, shares_of, share_table, greatest_share, sharers, counted_share, pool_at, lying_shares, "
              "is_shares, share_paper, is_share_paper",
    "tables": "all_senders, ends, end_table, is_end_table, sure_senders, alike_rows, how_many_with, shares_with, "
              "share_with, link_share, links_of, changed_by, fewest_links",
    "alike": "luck_by, wishes_by, alike_world, is_alike, threading_of, all_alike, alike_along, other_world, is_other, "
             "letters_by",
    "least": "sure_many, least_batch, least_keep, least_rules, is_enough, weak_houses, left_least, left_most, counts_of, "
             "is_counts, bound_at, share_bound, behind, least_bound, thin_ones, heavy_ones",
    "finds": "mate_rows, possible, mate_of, is_mate_of, least_seen, traced, weakness, finding, is_finding",
    "games": "is_stand, turns_at, after_turn, best_found, sure_found, sure_move, is_sure_move, found_table, is_play, "
             "finds_of, play_world, is_play_world",
    "goals": "end_in, may_be_open, goals_of, all_goals, goal_threading, is_goal_threading, goal_cut, is_goal_cut, "
             "held_over, can_all, threading_with_all, pairs_bar, is_pairs_bar, sure_pairs",
    "rounds": "writes_in, goal_sets, suspects, found_at, round_paper, is_round_paper, clearing, is_clearing, "
              "suspects_of, friend_lots, sure_of, is_only, least_rounds, quick_sets, is_quick",
    "judge": "is_claim, is_so, paper, is_paper, shows, not_so, words_so",
    "texts": "letter_text, world_text, wishes_text, choice_text, plan_text, view_text, read_letter, read_world, "
             "read_wishes, read_choice, read_plan, read_view, news, grown",
    "shell": "first_desk, is_request, requests, scene_after, said, worked, session",
}

LISTS = ("all_routes", "safe_routes", "all_picks", "house_run", "played", "views_along", "all_threadings",
         "threadings_from", "all_alike", "alike_along", "friend_lots", "requests")


def module_of(file):
    return import_module(f"sendershade.{file}")


def some_value(chance, deep):
    """Some value of numbers, True, False, None, strings, lists and tuples, so many levels deep at most."""
    if deep == 0 or chance.random() < 0.4:
        return chance.choice((0, 1, 2, -1, 7, 10 ** 30, True, False, None, "", "person", "house", "own", "opened", "may",
                              "never", "over", "twice", "go", "x y\n z"))
    parts = [some_value(chance, deep - 1) for _ in range(chance.choice((0, 1, 2, 2, 3, 4, 5, 8)))]
    return chance.choice((tuple, tuple, list))(parts)


def all_calls():
    """Triples of each call: the name, the function, the arguments by their names."""
    return [(row[0], getattr(module_of(file), row[0]), row[1]) for file, rows in CALLS.items() for row in rows]


def outcome(call, *args, **named):
    """What a call returns or raises, in a form that tells True from 1 and lists from tuples."""
    try:
        return repr(call(*args, **named))
    except (LookupError, ValueError) as error:
        return f"{type(error)} {vars(error)}"


class TestNames(TestCase):

    def test_errors(self):
        for name in ERRORS:
            told = getattr(module_of("errors"), name)
            self.assertTrue(isclass(told) and told.__module__ == "sendershade.errors", name)

    def test_functions(self):
        for file, text in NAMES.items():
            for name in text.split(", "):
                told = getattr(module_of(file), name)
                self.assertTrue(isfunction(told) and told.__module__ == f"sendershade.{file}", name)

    def test_each_is_called_here(self):
        for file, text in NAMES.items():
            self.assertEqual({row[0] for row in CALLS[file]}, set(text.split(", ")))

    def test_parameters(self):
        for name, call, given in all_calls():
            self.assertEqual([str(told) for told in signature(call).parameters.values()], list(given), name)


class TestEveryCall(TestCase):

    def test_errors(self):
        for file, row in [(file, row) for file, rows in CALLS.items() for row in rows]:
            with self.subTest(row):
                told = outcome(getattr(module_of(file), row[0]), **row[1])
                if len(row) > 2:
                    self.assertIn(f"sendershade.errors.{row[2]}'", told)
                else:
                    self.assertNotIn("<class", told)

    def test_by_position_and_by_name(self):
        for name, call, given in all_calls():
            with self.subTest(name, given=given):
                turned = dict(reversed(list(given.items())))
                told = outcome(call, *given.values())
                self.assertEqual(outcome(call, **turned), told)
                self.assertEqual(outcome(call, **given), told)

    def test_lists_for_tuples(self):
        for name, call, given in all_calls():
            with self.subTest(name, given=given):
                told = outcome(call, **given)
                lists = {key: part if key == "thing" else listed(part) for key, part in given.items()}
                kept = deepcopy(lists)
                self.assertEqual(outcome(call, **lists), told)
                self.assertEqual(lists, kept)
                for key in [key for key in given if key != "thing"]:
                    self.assertEqual(outcome(call, **{**given, key: lists[key]}), told)

    def test_any_thing(self):
        chance = Random(1)
        calls = [(outcome(own[1], **own[2]),) + own for own in all_calls() if "thing" in own[2]]
        # Where a FINDING is too large that is told, so long as all else is so.
        for told, name, call, given in [own for own in calls if "TooMany" not in own[0]]:
            ways = [way for way, _ in parts_of(given["thing"])]
            things = [some_value(chance, deep) for deep in (1, 2, 3, 4, 12) for _ in range(2)]
            things += [changed(given["thing"], chance.choice(ways), some_value(chance, 2)) for _ in range(8)]
            for thing in things:
                with self.subTest(name, thing=thing):
                    again = outcome(call, **{**given, "thing": thing})
                    if told.startswith("<class"):
                        self.assertEqual(again, told)
                    else:
                        self.assertIn(again, ("True", "False") + ("None",) * (name == "shows"))

    def test_tuples_and_lists_returned(self):
        for name, call, given in all_calls():
            with self.subTest(name, given=given):
                try:
                    told = call(**given)
                    told_of_lists = call(**{key: part if key == "thing" else listed(part)
                                            for key, part in given.items()})
                except (LookupError, ValueError):
                    continue
                self.assertEqual(isinstance(told, list), name in LISTS)
                for part in (told, told_of_lists):
                    self.assertTrue(only_tuples(tuple(part) if name in LISTS else part))

    def test_returned_lists_belong_to_the_caller(self):
        for name, call, given in [call for call in all_calls() if call[0] in LISTS]:
            with self.subTest(name, given=given):
                kept = outcome(call, **given)
                try:
                    told = call(**given)
                except (LookupError, ValueError):
                    continue
                told.append(told.pop(0))
                told.clear()
                self.assertEqual(outcome(call, **given), kept)
