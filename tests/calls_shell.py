"""As calls.py, for the judge, texts and the shell."""

from tests.calls_finds import BOTH, EVEN, HALL, KEPT, MATE, MORE, NET, PAIR, REST, SEEN, SLY_RULE, STUCK
from tests.calls_shades import DAWN, FULL, FULL_PLAN, NIGHT, TALK
from tests.sights import MIXED, MIXED_REST

HALVES = ((0, ((0, (1, 1)),)), (1, ((1, (1, 1)),)), (2, ((0, (1, 2)), (1, (1, 2)))))
LATER = NIGHT[:3] + ((NIGHT[3][0], None, None),) + NIGHT[4:]
CLAIMS = (("may", PAIR, 2, 0), ("may", PAIR, 2, 2), ("goal", NET, PAIR, 0, 2), ("goal", NET, PAIR, 0, 3),
          ("pairs", KEPT, STUCK[:1]), ("pairs", KEPT, STUCK), ("share", PAIR, 2, 0, (1, 2)),
          ("share", PAIR, 2, 0, (2, 3)), ("alike", NIGHT, TALK, DAWN), ("alike", NIGHT, TALK, LATER),
          ("weak", SLY_RULE, 2, 1), ("weak", EVEN, 2, 0), ("enough", 2, ((), ()), (EVEN,)), ("enough", 3, REST, (EVEN,)),
          ("suspect", NET, (PAIR, MORE), 0, 1), ("suspect", NET, (PAIR, MORE), 0, 2))
WRONG = (((("bold", PAIR),), "NoWord"), (((),), "Unfit"), ((("may", PAIR, 9, 0),), "NoToken"),
         ((("goal", MIXED_REST[0], MIXED, 2, 0),), "Unfit"), ((("pairs", KEPT, ((9, None),)),), "Unfit"),
         ((("alike", NIGHT, TALK[1:], NIGHT),), "Unfit"), ((("share", PAIR, -1, 0, (1, 2)),), "NoToken"))
TOWN_TEXT = "world 3 2\n persons 2\n houses 1\n rule 1 0 - yes yes luck 1\n rule 2 3 4 no yes\n wish 1 0 0,1 2 7\n wish -\n wish -"
WISHES_TEXT = "wishes\n wish 1 0 0,1 2 7\n wish -\n wish 12 2 1 0 0"
CHOICE_TEXT = "choice\n letter 2 0 1 5\n letter 2 0,1 0 0\n comes 0,1,0"
VIEW_TEXT = "view\n p0 h0 1\n p2 h0 2 own 2 0 2 9 0\n h0 p2 2 own 2 0 2 9 1 word 9\n h0 h1 3\n h1 p2 3 opened 3 word 5\n again 3 1"
VIEW = (SEEN[0], ((3, 1),))
SCENE = (HALL, BOTH)
DESK = (SCENE, (("go", (HALL, BOTH[:1])),), (("hold", (HALL, BOTH + BOTH[:1])),))

SHELL_CALLS = {
    "judge": tuple([("is_claim", {"thing": claim}) for claim in CLAIMS[:2]])
    + tuple([("is_claim", {"thing": list(CLAIMS[0])})])
    + tuple([(name, {"claim": claim}) for name in ("is_so", "paper") for claim in CLAIMS])
    + tuple([(name, {"claim": claim[0]}, error) for name in ("is_so", "paper") for claim, error in WRONG])
    + (
        ("is_paper", {"claim": CLAIMS[0], "thing": (0, 2)}),
        ("is_paper", {"claim": CLAIMS[0], "thing": [0, 2]}),
        ("is_paper", {"claim": CLAIMS[6], "thing": HALVES}),
        ("is_paper", {"claim": ("may", PAIR, 4, 0), "thing": (0, 2)}, "NoToken"),
        ("is_paper", {"claim": ("weak", FULL[2][0], 9, 0), "thing": (FULL, FULL_PLAN, 9)}, "TooMany"),
        ("shows", {"claim": CLAIMS[1], "thing": (0, 1, 2)}),
        ("shows", {"claim": CLAIMS[1], "thing": [0, 1, 2]}),
        ("shows", {"claim": CLAIMS[12], "thing": (2,)}),
        ("shows", {"claim": ("no",), "thing": (2,)}, "NoWord"),
        ("not_so", {"claims": CLAIMS[:6]}),
        ("not_so", {"claims": (CLAIMS[0], ("may", PAIR))}, "Unfit"),
        ("words_so", {"claims": CLAIMS[10:]}),
        ("words_so", {"claims": (CLAIMS[0], ())}, "Unfit"),
    ),
    "texts": (
        ("letter_text", {"letter": (0, (0, 1), 2, 7)}),
        ("world_text", {"world": HALL}),
        ("world_text", {"world": NIGHT}),
        ("wishes_text", {"wishes": HALL[3]}),
        ("choice_text", {"choice": (((2, (0,), 1, 5),), (0, 1, 0))}),
        ("plan_text", {"plan": BOTH}),
        ("view_text", {"view": VIEW}),
        ("read_letter", {"text": "0 0,1 2 7"}),
        ("read_letter", {"text": "0 1,0 2 7"}, "BadText"),
        ("read_world", {"text": TOWN_TEXT}),
        ("read_world", {"text": TOWN_TEXT[:-1]}, "BadLine"),
        ("read_wishes", {"text": WISHES_TEXT}),
        ("read_wishes", {"text": ""}, "BadLine"),
        ("read_choice", {"text": CHOICE_TEXT}),
        ("read_choice", {"text": CHOICE_TEXT + "\n"}, "BadLine"),
        ("read_plan", {"text": CHOICE_TEXT + "\nchoice"}),
        ("read_plan", {"text": "choice\n comes"}, "BadLine"),
        ("read_view", {"text": VIEW_TEXT}),
        ("read_view", {"text": VIEW_TEXT + "\n p0 h0 1"}, "BadLine"),
        ("news", {"near": (SEEN[0][:3], ()), "far": VIEW}),
        ("news", {"near": VIEW, "far": SEEN}, "Unfit"),
        ("grown", {"view": (SEEN[0][:3], ((2, 0),)), "text": " h0 h1 3\n again 3 1"}),
        ("grown", {"view": SEEN, "text": "view"}, "BadLine"),
    ),
    "shell": (
        ("first_desk", {}),
        ("is_request", {"thing": "back 7"}),
        ("is_request", {"thing": ["back 7"]}),
        ("requests", {"text": "go\nstep\n choice\n  comes 0\nseen"}),
        ("requests", {"text": "go\n x"}, "BadLine"),
        ("scene_after", {"scene": SCENE, "request": "go"}),
        ("scene_after", {"scene": SCENE, "request": "back 1"}),
        ("scene_after", {"scene": SCENE, "request": "step\n choice\n  letter 2 0 0 9\n  comes 0"}),
        ("scene_after", {"scene": SCENE, "request": "wishes\n wishes\n  wish -\n  wish 2 1 0 0 0\n  wish -"}),
        ("scene_after", {"scene": SCENE, "request": "wishes\n wish -"}, "BadLine"),
        ("scene_after", {"scene": SCENE, "request": "seen"}, "Unfit"),
        ("said", {"scene": SCENE, "request": "seen"}),
        ("said", {"scene": SCENE, "request": "other 2 1"}),
        ("said", {"scene": SCENE, "request": "share 2 0"}),
        ("said", {"scene": SCENE, "request": "who 9"}, "NoToken"),
        ("said", {"scene": SCENE, "request": "cut 2 0"}, "NoPaper"),
        ("said", {"scene": SCENE, "request": "lies 1"}, "Unfit"),
        ("worked", {"desk": DESK, "request": "hold"}),
        ("worked", {"desk": DESK, "request": "undo"}),
        ("worked", {"desk": DESK, "request": "redo"}),
        ("worked", {"desk": DESK, "request": "back 9"}),
        ("worked", {"desk": DESK, "request": ""}, "Unfit"),
        ("session", {"desk": DESK, "text": "redo\nredo\nback 0\nnow\nundo"}),
        ("session", {"desk": DESK, "text": "redo\n"}, "BadLine"),
    ),
}
