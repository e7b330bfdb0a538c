"""As calls.py, for what may be found: least, finds, games, goals, rounds."""

from tests.calls_shades import FULL, FULL_PLAN, HASTY, TALK
from tests.sights import MIXED, MIXED_REST, MIXED_TRUE, POOL, crowd

FIRM, EVEN = (2, 1, None, True, True), (2, 0, None, True, True)
WAITING, LOOSE = (2, 0, 3, True, True), (2, 0, None, False, False)
SLY_RULE = (2, 0, None, True, False)
REST = ((2,), ())
NEAR, FAR, OWN = (0, (0,), 2, 5), (1, (0,), 2, 6), (2, (0,), 2, 9)
HALL = ((3, 1), REST, (EVEN,), ((1, NEAR), (1, FAR), None), 0, (((), (), ()),), (), ())
MATE = HALL[:3] + (((1, (0, (0,), 2, 6)), (1, (1, (0,), 2, 5)), None), 0, (((), (), (1, 0)),), (), ())
BOTH = (((), ()), ((), (0, 1)))
SLY = HALL[:2] + ((SLY_RULE,),) + HALL[3:]
FLOOD = (((OWN,), ()), ((), (1, 0)))
SEEN = (((("person", 0), ("house", 0), 1, None, None), (("person", 2), ("house", 0), 2, ("own", OWN, 0), None),
         (("house", 0), ("person", 2), 2, ("own", OWN, 1), 9), (("house", 0), ("house", 1), 3, None, None),
         (("house", 1), ("person", 2), 3, ("opened", 3), 5)), ())
STAND, PLAY = (1, 1, 0, 0, 0), ((1, 0, 0), (0, 1, 1))
PLAY_WORLD = (((3, 1), REST, (EVEN,), ((1, (0, (0,), 0, 0)), (1, (1, (0,), 1, 0)), None), 0, (((), (), (0, 0)),), (), ()),
              ((((2, (0,), 0, 0),), ()), ((), (1,)), ((), (0,))))
NET, ZERO = (4, 1), ("house", 0)
AT = [("person", own) for own in range(4)]
PAIR = ((AT[0], ZERO, 1, 2, None), (AT[1], ZERO, 1, 2, None), (ZERO, AT[1], 2, None, None), (ZERO, AT[2], 2, None, None))
MORE = (PAIR[0], (AT[2], ZERO, 1, 2, None), (ZERO, AT[3], 2, None, None), (ZERO, AT[1], 2, None, None))
KEPT = PAIR[:3] + ((AT[2], ZERO, 3, 4, None), (ZERO, AT[0], 4, None, None))
STUCK = ((0, 4), (1, None))
SHOWN = ((0, 1), (1, 2), (3,))
LARGE = crowd(8, 7, 3)

FIND_CALLS = {
    "least": (
        ("sure_many", {"rule": FIRM, "rest": REST}),
        ("sure_many", {"rule": WAITING, "rest": REST}, "Unfit"),
        ("least_batch", {"want": 3, "rest": REST, "keep": 1}),
        ("least_keep", {"want": 3, "rest": REST, "batch": 2}),
        ("least_rules", {"want": 2, "rest": REST}),
        ("is_enough", {"want": 2, "rest": REST, "rules": (FIRM, FIRM)}),
        ("weak_houses", {"want": 2, "rest": REST, "rules": (EVEN, WAITING, FIRM)}),
        ("left_least", {"rule": FIRM, "many": 5}),
        ("left_least", {"rule": LOOSE, "many": 5}, "Unfit"),
        ("left_most", {"rule": FIRM, "many": 5}),
        ("left_most", {"rule": SLY_RULE, "many": 5}, "Unfit"),
        ("counts_of", {"sight": MIXED, "house": 0}),
        ("is_counts", {"sight": MIXED, "house": 0, "thing": ((2, 3, 2),)}),
        ("is_counts", {"sight": MIXED, "house": 0, "thing": [(2, 3, 2)]}),
        ("bound_at", {"sight": MIXED, "token": 6}),
        ("bound_at", {"sight": MIXED, "token": 7}, "NoToken"),
        ("share_bound", {"sight": MIXED, "token": 5}),
        ("share_bound", {"sight": MIXED, "token": -1}, "NoToken"),
        ("behind", {"sight": MIXED}),
        ("least_bound", {"sight": MIXED}),
        ("thin_ones", {"sight": POOL, "want": 3}),
        ("heavy_ones", {"sight": POOL, "want": 3}),
    ),
    "finds": (
        ("mate_rows", {"world": HALL, "plan": BOTH}),
        ("mate_rows", {"world": HALL, "plan": FLOOD + BOTH}),
        ("mate_rows", {"world": HALL, "plan": BOTH[1:]}, "Unfit"),
        ("mate_rows", {"world": FULL, "plan": FULL_PLAN}, "TooMany"),
        ("possible", {"world": HALL, "plan": BOTH, "token": 2}),
        ("possible", {"world": HASTY, "plan": TALK, "token": 2}),
        ("possible", {"world": HALL, "plan": BOTH, "token": 4}, "NoToken"),
        ("possible", {"world": FULL, "plan": FULL_PLAN, "token": 99}, "NoToken"),
        ("possible", {"world": FULL, "plan": FULL_PLAN, "token": 9}, "TooMany"),
        ("mate_of", {"world": HALL, "plan": BOTH, "token": 2, "person": 1}),
        ("mate_of", {"world": HALL, "plan": BOTH, "token": 2, "person": 2}, "NoPaper"),
        ("mate_of", {"world": FULL, "plan": FULL_PLAN, "token": 9, "person": 9}, "TooMany"),
        ("is_mate_of", {"world": HALL, "plan": BOTH, "token": 2, "person": 1, "thing": MATE}),
        ("is_mate_of", {"world": HALL, "plan": BOTH, "token": 2, "person": 1, "thing": list(MATE)}),
        ("is_mate_of", {"world": HALL, "plan": BOTH, "token": 4, "person": 1, "thing": None}, "NoToken"),
        ("least_seen", {"world": SLY, "plan": FLOOD}),
        ("least_seen", {"world": HALL, "plan": ()}, "NoPaper"),
        ("traced", {"view": SEEN, "token": 2}),
        ("traced", {"view": SEEN, "token": 4}),
        ("traced", {"view": SEEN, "token": 5}, "NoToken"),
        ("weakness", {"rule": FIRM, "want": 3, "bad": 1}),
        ("finding", {"rule": SLY_RULE, "want": 2, "bad": 1}),
        ("finding", {"rule": FIRM, "want": 2, "bad": 1}, "NoPaper"),
        ("is_finding", {"rule": SLY_RULE, "want": 2, "bad": 1, "thing": (SLY, FLOOD, 3)}),
        ("is_finding", {"rule": SLY_RULE, "want": 2, "bad": 1, "thing": [SLY, FLOOD, 3]}),
        ("is_finding", {"rule": FULL[2][0], "want": 9, "bad": 0, "thing": (FULL, FULL_PLAN, 9)}, "TooMany"),
    ),
    "games": (
        ("is_stand", {"thing": STAND}),
        ("turns_at", {"batch": 2, "keep": 0, "stand": STAND}),
        ("after_turn", {"batch": 2, "keep": 0, "stand": STAND, "turn": (1, 1, 1)}),
        ("after_turn", {"batch": 2, "keep": 0, "stand": STAND, "turn": (1, 1, 2)}, "Unfit"),
        ("best_found", {"batch": 2, "keep": 2, "stand": (4, 3, 0, 0, 0)}),
        ("sure_found", {"batch": 2, "keep": 2, "stand": (4, 3, 0, 0, 0)}),
        ("sure_move", {"batch": 2, "keep": 0, "stand": (2, 1, 0, 0, 0), "many": 1}),
        ("sure_move", {"batch": 2, "keep": 0, "stand": (2, 1, 0, 0, 0), "many": 0}, "NoPaper"),
        ("is_sure_move", {"batch": 2, "keep": 0, "stand": (2, 1, 0, 0, 0), "many": 1, "thing": (1, 1)}),
        ("is_sure_move", {"batch": 2, "keep": 0, "stand": (2, 1, 0, 0, 0), "many": 1, "thing": [1, 1]}),
        ("found_table", {"batch": 2, "keep": 1, "people": 3, "bad": 1}),
        ("is_play", {"batch": 2, "keep": 0, "people": 2, "bad": 1, "thing": PLAY}),
        ("is_play", {"batch": 2, "keep": 0, "people": 2, "bad": 1, "thing": list(PLAY)}),
        ("finds_of", {"batch": 2, "keep": 0, "people": 2, "bad": 1, "play": PLAY}),
        ("finds_of", {"batch": 2, "keep": 0, "people": 1, "bad": 1, "play": PLAY + PLAY}, "Unfit"),
        ("play_world", {"batch": 2, "keep": 0, "people": 2, "bad": 1, "play": PLAY}),
        ("play_world", {"batch": 2, "keep": 0, "people": 2, "bad": 0, "play": PLAY}, "Unfit"),
        ("is_play_world", {"batch": 2, "keep": 0, "people": 2, "bad": 1, "play": PLAY, "thing": PLAY_WORLD}),
        ("is_play_world", {"batch": 2, "keep": 0, "people": 2, "bad": 1, "play": PLAY, "thing": list(PLAY_WORLD)}),
        ("is_play_world", {"batch": 2, "keep": 0, "people": 2, "bad": 0, "play": PLAY, "thing": PLAY_WORLD}, "Unfit"),
    ),
    "rounds": (
        ("writes_in", {"sights": (PAIR, MORE), "person": 2}),
        ("goal_sets", {"net": NET, "sights": (PAIR, MORE), "person": 0}),
        ("suspects", {"net": NET, "sights": (PAIR, MORE), "person": 0}),
        ("found_at", {"net": NET, "sights": (PAIR, MORE), "person": 0}),
        ("round_paper", {"net": NET, "sights": (PAIR, MORE), "person": 0, "friend": 1}),
        ("round_paper", {"net": NET, "sights": (PAIR, MORE), "person": 0, "friend": 2}, "NoPaper"),
        ("is_round_paper", {"net": NET, "sights": (PAIR, MORE), "person": 0, "friend": 1,
                            "thing": ((None, None, 0, 1), (None, None, 1, 0))}),
        ("is_round_paper", {"net": NET, "sights": (PAIR, MORE), "person": 0, "friend": 1,
                            "thing": [(None, None, 0, 1), (None, None, 1, 0)]}),
        ("clearing", {"net": NET, "sights": (PAIR, MORE), "person": 0, "friend": 2}),
        ("clearing", {"net": NET, "sights": (PAIR, MORE), "person": 0, "friend": 1}, "NoPaper"),
        ("is_clearing", {"net": NET, "sights": (PAIR, MORE), "person": 0, "friend": 2, "thing": (1, (0, 2, 3))}),
        ("is_clearing", {"net": NET, "sights": (PAIR, MORE), "person": 0, "friend": 2, "thing": [1, (0, 2, 3)]}),
        ("suspects_of", {"people": 5, "sets": SHOWN[:2]}),
        ("friend_lots", {"people": 5, "sets": SHOWN, "many": 3}),
        ("sure_of", {"people": 5, "sets": SHOWN, "many": 2}),
        ("sure_of", {"people": 5, "sets": SHOWN, "many": 1}, "NoPaper"),
        ("is_only", {"people": 5, "sets": SHOWN, "many": 2, "thing": (1, 3)}),
        ("is_only", {"people": 5, "sets": SHOWN, "many": 2, "thing": [1, 3]}),
        ("least_rounds", {"people": 8, "each": 6}),
        ("least_rounds", {"people": 4, "each": 4}, "NoPaper"),
        ("least_rounds", {"people": 4, "each": 5}, "Unfit"),
        ("quick_sets", {"people": 8, "friend": 3, "each": 6}),
        ("quick_sets", {"people": 4, "friend": 3, "each": 4}, "NoPaper"),
        ("quick_sets", {"people": 4, "friend": 3, "each": 5}, "Unfit"),
        ("is_quick", {"people": 5, "friend": 0, "each": 2, "thing": ((0, 1), (0, 2))}),
        ("is_quick", {"people": 5, "friend": 0, "each": 2, "thing": [(0, 1), (0, 2)]}),
    ),
    "goals": (
        ("end_in", {"sight": MIXED, "threading": MIXED_TRUE, "token": 1}),
        ("end_in", {"sight": MIXED, "threading": MIXED_TRUE, "token": 0}, "NoToken"),
        ("may_be_open", {"sight": KEPT, "token": 3}),
        ("may_be_open", {"sight": MIXED, "token": 4}, "NoToken"),
        ("goals_of", {"net": NET, "sight": KEPT, "person": 2}),
        ("goals_of", {"net": MIXED_REST[0], "sight": MIXED, "person": 2}, "Unfit"),
        ("all_goals", {"net": NET, "sight": PAIR}),
        ("goal_threading", {"sight": LARGE, "person": 0, "goal": 0}),
        ("goal_threading", {"sight": PAIR, "person": 0, "goal": 3}, "NoPaper"),
        ("goal_threading", {"sight": PAIR, "person": 2, "goal": 3}, "Unfit"),
        ("is_goal_threading", {"sight": PAIR, "person": 0, "goal": 2, "thing": (None, None, 1, 0)}),
        ("is_goal_threading", {"sight": PAIR, "person": 0, "goal": 2, "thing": [None, None, 1, 0]}),
        ("is_goal_threading", {"sight": PAIR, "person": 3, "goal": 2, "thing": None}, "Unfit"),
        ("goal_cut", {"sight": PAIR, "person": 0, "goal": 3}),
        ("goal_cut", {"sight": PAIR, "person": 0, "goal": 2}, "NoPaper"),
        ("goal_cut", {"sight": PAIR, "person": 2, "goal": 2}, "Unfit"),
        ("is_goal_cut", {"sight": PAIR, "person": 0, "goal": 3, "thing": (0, 2, 3)}),
        ("is_goal_cut", {"sight": PAIR, "person": 0, "goal": 3, "thing": [0, 2, 3]}),
        ("is_goal_cut", {"sight": PAIR, "person": 2, "goal": 3, "thing": (0, 2, 3)}, "Unfit"),
        ("held_over", {"sight": KEPT, "pairs": STUCK, "house": 0, "moment": 4}),
        ("held_over", {"sight": KEPT, "pairs": ((0, 5),), "house": 0, "moment": 4}, "Unfit"),
        ("can_all", {"sight": KEPT, "pairs": STUCK}),
        ("can_all", {"sight": MIXED, "pairs": ((0, 4),)}, "Unfit"),
        ("threading_with_all", {"sight": LARGE, "pairs": ((0, 15), (2, 9), (7, 8), (8, 23))}),
        ("threading_with_all", {"sight": KEPT, "pairs": STUCK}, "NoPaper"),
        ("threading_with_all", {"sight": KEPT, "pairs": ((9, None),)}, "Unfit"),
        ("pairs_bar", {"sight": KEPT, "pairs": STUCK}),
        ("pairs_bar", {"sight": KEPT, "pairs": STUCK[:1]}, "NoPaper"),
        ("pairs_bar", {"sight": KEPT, "pairs": ((-1, None),)}, "Unfit"),
        ("is_pairs_bar", {"sight": KEPT, "pairs": STUCK, "thing": ("over", 0, 2, (0, 1))}),
        ("is_pairs_bar", {"sight": KEPT, "pairs": STUCK, "thing": ["over", 0, 2, (0, 1)]}),
        ("is_pairs_bar", {"sight": KEPT, "pairs": ((0, 9),), "thing": None}, "Unfit"),
        ("sure_pairs", {"sight": MIXED}),
    ),
}
