"""As calls.py, for what rests on what the rest sees: views, sights, threads, swaps."""

from tests.sights import LONE, MIXED, MIXED_REST, POOL, crowd

MIX, OUT, HASTY = (2, 0, None, True, True), (1, 0, None, True, True), (2, 0, 3, True, True)
FIRST, SECOND, OWN = (0, (0, 1), 2, 7), (1, (0,), 0, 9), (2, (0,), 1, 5)
NET, REST = (3, 2), ((2,), (1,))
START = (NET, REST, (MIX, OUT), ((1, FIRST), (1, SECOND), None), 0, (((), (), (1,)), ((), (), ())), (), ())
WAITING = START[:2] + ((HASTY, OUT),) + START[3:]
PLAN = (((), ()), ((OWN,), (0, 1)))
ZERO, ONE, HOME, BAD = ("person", 0), ("person", 1), ("house", 0), ("house", 1)
ROADS = (((FIRST, 0), ZERO, 1), ((SECOND, 0), ONE, 1), ((OWN, 0), ("person", 2), 2), ((SECOND, 1), HOME, 2),
         ((FIRST, 1), HOME, 2), ((FIRST, 2), BAD, 2))
LAST = START[:4] + (2, (((), ((0, 2), (1, 2)), ()), ((), (), ())), ROADS, ())
VIEW = (((ZERO, HOME, 1, None, None), (ONE, HOME, 1, None, None), (("person", 2), HOME, 2, ("own", OWN, 0), None),
         (HOME, ZERO, 2, None, None), (HOME, BAD, 2, None, None), (BAD, ("person", 2), 2, ("opened", 4), 7)), ())
EARLY = (VIEW[0][:2], ())
OWN_VIEW = ((VIEW[0][2], (HOME, BAD, 2, None, None), (BAD, ZERO, 2, ("opened", 1), None),
             (HOME, ONE, 3, ("own", OWN, 1), None)), ((4, 0), (4, 3)))
TRUE = (None, None, None, 2, 0, 1, 5)
NEAR, FAR = (None, None, None, 0, 1), (None, None, None, 1, 2)
MANY = crowd(8, 8)

SIGHT_CALLS = {
    "views": (
        ("tag_of", {"world": LAST, "token": 2}),
        ("tag_of", {"world": LAST, "token": 5}),
        ("tag_of", {"world": LAST, "token": 6}, "NoToken"),
        ("view_of", {"world": LAST}),
        ("views_along", {"world": START, "plan": PLAN}),
        ("views_along", {"world": START, "plan": PLAN[1:]}, "Unfit"),
        ("view_till", {"view": VIEW, "moment": 1}),
        ("first_parted", {"near": VIEW, "far": EARLY}),
        ("first_parted", {"near": VIEW, "far": VIEW}),
        ("same_view", {"world": LAST, "other": START}),
        ("is_view", {"net": NET, "rest": REST, "thing": VIEW}),
        ("is_view", {"net": NET, "rest": REST, "thing": list(VIEW)}),
        ("seen_at", {"view": VIEW, "moment": 2}),
        ("hidden_in", {"view": VIEW}),
        ("told_words", {"view": VIEW}),
        ("own_letters", {"view": VIEW}),
        ("row_links", {"view": VIEW, "token": 5}),
        ("row_links", {"view": OWN_VIEW, "token": 3}),
        ("row_links", {"view": VIEW, "token": -1}, "NoToken"),
        ("row_ends", {"view": VIEW}),
        ("row_ends", {"view": OWN_VIEW}),
    ),
    "sights": (
        ("is_sight", {"net": MIXED_REST[0], "rest": MIXED_REST[1], "thing": MIXED}),
        ("is_sight", {"net": MIXED_REST[0], "rest": MIXED_REST[1], "thing": list(MIXED)}),
        ("sight_of", {"world": LAST}),
        ("sight_of", {"world": WAITING}, "Unfit"),
        ("is_known", {"sight": MIXED, "token": 4}),
        ("is_known", {"sight": MIXED, "token": 7}, "NoToken"),
        ("known_tokens", {"sight": MIXED}),
        ("ins_of", {"sight": MIXED, "house": 0}),
        ("outs_of", {"sight": MIXED, "house": 0}),
        ("all_outs", {"sight": MIXED}),
        ("sent_by", {"sight": MIXED, "person": 1}),
        ("come_home", {"sight": MIXED}),
        ("lies_ahead", {"sight": MIXED, "token": 3}),
        ("lies_ahead", {"sight": MIXED, "token": 4}, "Unfit"),
        ("lies_ahead", {"sight": MIXED, "token": 7}, "NoToken"),
        ("least_lying", {"sight": MIXED}),
        ("lying_behind", {"sight": POOL, "house": 0, "moment": 2}),
        ("emptied", {"sight": MIXED, "house": 0}),
        ("sight_at", {"sight": MIXED, "moment": 1}),
    ),
    "threads": (
        ("is_threading", {"sight": MIXED, "thing": TRUE}),
        ("is_threading", {"sight": MIXED, "thing": list(TRUE)}),
        ("true_threading", {"world": LAST}),
        ("true_threading", {"world": WAITING}, "Unfit"),
        ("how_many", {"sight": MIXED}),
        ("all_threadings", {"sight": MIXED}),
        ("all_threadings", {"sight": MANY}, "TooMany"),
        ("first_threading", {"sight": MIXED}),
        ("threading_at", {"sight": MIXED, "number": 1}),
        ("threading_at", {"sight": MIXED, "number": 2}, "Unfit"),
        ("number_of", {"sight": MIXED, "threading": TRUE}),
        ("free_for", {"sight": MIXED, "threading": TRUE, "token": 5}),
        ("free_for", {"sight": MIXED, "threading": TRUE, "token": 4}, "Unfit"),
        ("free_for", {"sight": MIXED, "threading": TRUE, "token": 7}, "NoToken"),
        ("goes_on", {"sight": MIXED, "threading": TRUE, "token": 1}),
        ("goes_on", {"sight": MIXED, "threading": TRUE, "token": 7}, "NoToken"),
        ("way_back", {"sight": MIXED, "threading": TRUE, "token": 6}),
        ("way_back", {"sight": MIXED, "threading": TRUE, "token": 7}, "NoToken"),
        ("sender_of", {"sight": MIXED, "threading": TRUE, "token": 6}),
        ("sender_of", {"sight": MIXED, "threading": TRUE, "token": 7}, "NoToken"),
        ("way_on", {"sight": MIXED, "threading": TRUE, "token": 1}),
        ("way_on", {"sight": MIXED, "threading": TRUE, "token": 7}, "NoToken"),
        ("still_lying", {"sight": POOL, "threading": NEAR, "house": 0}),
        ("homes", {"sight": MIXED, "threading": TRUE}),
        ("threadings_from", {"sight": MIXED, "person": 0, "token": 6}),
        ("threadings_from", {"sight": MIXED, "person": 2, "token": 4}, "Unfit"),
        ("threadings_from", {"sight": MIXED, "person": 2, "token": 7}, "NoToken"),
        ("threadings_from", {"sight": MANY, "person": 2, "token": 8}, "TooMany"),
    ),
    "swaps": (
        ("lie_together", {"sight": POOL, "threading": NEAR, "token": 1, "mate": 2}),
        ("lie_together", {"sight": POOL, "threading": NEAR, "token": 5, "mate": 6}, "NoToken"),
        ("lie_together", {"sight": POOL, "threading": NEAR, "token": 0, "mate": 6}, "NoToken"),
        ("swaps_of", {"sight": POOL, "threading": NEAR}),
        ("swapped", {"sight": POOL, "threading": NEAR, "swap": (1, 2)}),
        ("swapped", {"sight": POOL, "threading": NEAR, "swap": (0, 2)}, "Unfit"),
        ("swapped_by", {"sight": POOL, "threading": NEAR, "row": ((0, 1), (0, 2))}),
        ("swapped_by", {"sight": POOL, "threading": NEAR, "row": ()}),
        ("swapped_by", {"sight": POOL, "threading": NEAR, "row": ((0, 1), (1, 2))}, "Unfit"),
        ("unlike_outs", {"one": NEAR, "other": FAR}),
        ("steps_apart", {"sight": POOL, "one": NEAR, "other": FAR}),
        ("swap_row", {"sight": POOL, "one": NEAR, "other": FAR}),
        ("is_swap_row", {"sight": POOL, "one": NEAR, "other": FAR, "thing": ((0, 1), (0, 2))}),
        ("is_swap_row", {"sight": POOL, "one": NEAR, "other": FAR, "thing": [(0, 1), (0, 2)]}),
        ("is_swap_row", {"sight": POOL, "one": NEAR, "other": NEAR, "thing": ()}),
        ("first_swaps", {"sight": POOL, "one": NEAR, "other": FAR}),
        ("first_swaps", {"sight": POOL, "one": NEAR, "other": NEAR}),
        ("ever_together", {"sight": POOL}),
        ("always_together", {"sight": POOL}),
        ("heaps", {"sight": LONE}),
        ("heap_of", {"sight": LONE, "token": 1}),
        ("heap_of", {"sight": LONE, "token": 2}, "Unfit"),
        ("heap_of", {"sight": LONE, "token": 4}, "NoToken"),
        ("heap_outs", {"sight": POOL, "heap": (0, 1, 2)}),
        ("heap_outs", {"sight": POOL, "heap": (0, 1)}, "Unfit"),
        ("heap_ways", {"sight": POOL, "heap": (0, 1, 2)}),
        ("heap_ways", {"sight": POOL, "heap": ()}, "Unfit"),
    ),
}
