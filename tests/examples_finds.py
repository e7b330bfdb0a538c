"""The examples of the document for what may be found, goals, the judge, texts and the shell, in its words."""

LEAST = """
>>> firm, none, one = (2, 1, None, True, True), ((), ()), ((2,), ())
>>> sure_many(firm, none), sure_many(firm, one), sure_many((1, 0, None, True, True), one)
(3, 2, 1)
>>> least_batch(3, one, 1), least_keep(3, one, 2), least_batch(1, one, 5), least_rules(2, one)
(3, 2, 1, ((1, 2, None, True, True), (2, 1, None, True, True), (3, 0, None, True, True)))
>>> is_enough(2, one, ((3, 0, None, True, True),)), weak_houses(2, one, ((2, 0, None, True, True), (4, 0, 5, True, True), firm))
(True, (0, 1))
>>> left_least(firm, 5), left_least(firm, 3), left_most(firm, 5), left_most(firm, 2)
(3, 2, 4, 0)
>>> seat = ((("person", 0), ("house", 0), 1, 2, None), (("person", 1), ("house", 0), 1, 2, None), (("house", 0), ("person", 2), 2, None, None), (("house", 0), ("person", 0), 2, None, None))
>>> counts_of(seat, 0), bound_at(seat, 3), bound_at(seat, 0), share_bound(seat, 2), behind(seat), least_bound(seat)
(((2, 2, 2),), 2, 1, (1, 2), (2, 3), 2)
>>> thin_ones(seat, 2), thin_ones(seat, 3), heavy_ones(seat, 2), is_counts(seat, 0, ((2, 2, 2),)), is_counts(seat, 0, [(2, 2, 2)])
((), (2, 3), (), True, False)
>>> bound_at(seat, 4)
raises NoToken(token=4)
>>> sure_many((2, 0, 3, True, True), none)
raises Unfit()
"""

FINDS = """
>>> near, far, own = (0, (0,), 2, 5), (1, (0,), 2, 6), (2, (0,), 2, 9)
>>> wishes, slots = ((1, near), (1, far), None), (((), (), ()),)
>>> hall = ((3, 1), ((2,), ()), ((2, 0, None, True, True),), wishes, 0, slots, (), ())
>>> both = (((), ()), ((), (0, 1)))
>>> possible(hall, both, 2), mate_rows(hall, both), least_seen(hall, both)
((0, 1), 2, (2, 2))
>>> sly = hall[:2] + (((2, 0, None, True, False),),) + hall[3:]
>>> flood = (((own,), ()), ((), (1, 0)))
>>> possible(sly, flood, 3), least_seen(sly, flood)
((0,), (1, 3))
>>> weakness((2, 1, None, True, True), 2, 1), weakness((2, 1, 4, True, True), 3, 1), weakness((2, 1, 4, True, True), 2, 1)
(None, 'batch', 'wait')
>>> is_finding((2, 0, None, True, False), 2, 1, (sly, flood, 3)), weakness((3, 0, None, False, True), 2, 1)
(True, None)
>>> mate_of(hall, both, 2, 2)
raises NoPaper()
"""

GAMES = """
>>> turns_at(2, 0, (1, 1, 0, 0, 0)), after_turn(2, 0, (1, 1, 0, 0, 0), (1, 1, 1))
(((0, 1, 0), (1, 0, 0), (1, 1, 1)), ((0, 0, 0, 0, 0), 1))
>>> best_found(2, 2, (4, 3, 0, 0, 0)), sure_found(2, 2, (4, 3, 0, 0, 0)), best_found(2, 0, (1, 0, 0, 0, 0))
(1, 3, None)
>>> is_sure_move(2, 0, (2, 1, 0, 0, 0), 1, (1, 1)), is_sure_move(2, 0, (2, 1, 0, 0, 0), 1, (2, 1)), finds_of(2, 0, 2, 1, ((1, 0, 0), (0, 1, 1)))
(True, False, (None, 1))
"""

ROUNDS = """
>>> zero, at = ("house", 0), [("person", own) for own in range(4)]
>>> both = ((at[0], zero, 1, 2, None), (at[1], zero, 1, 2, None), (zero, at[1], 2, None, None), (zero, at[2], 2, None, None))
>>> more = (both[0], (at[2], zero, 1, 2, None), (zero, at[3], 2, None, None), (zero, at[1], 2, None, None))
>>> goal_sets((4, 1), (both, more), 0), suspects((4, 1), (both, more), 0), found_at((4, 1), (both, more), 0)
(((1, 2), (1, 3)), (1,), 1)
>>> clearing((4, 1), (both, more), 0, 2)[0], round_paper((4, 1), (both, more), 0, 1), suspects((4, 1), (both,), 3)
(1, ((None, None, 0, 1), (None, None, 1, 0)), (0, 1, 2, 3))
>>> shown = ((0, 1), (1, 2), (3,))
>>> friend_lots(5, shown, 3), sure_of(5, shown, 3), sure_of(5, shown, 2), is_only(5, shown, 2, (1, 3))
([(0, 2, 3), (1, 3)], (3,), (1, 3), True)
>>> least_rounds(5, 2), least_rounds(8, 6), is_quick(5, 0, 2, ((0, 1), (0, 2)))
(2, 4, True)
>>> least_rounds(4, 4)
raises NoPaper()
"""

GOALS = """
>>> all_goals((4, 1), both), sure_pairs(both), is_goal_cut(both, 0, 3, (0, 2, 3)), is_goal_cut(both, 0, 2, (0, 2, 3))
(((1, 2), (1, 2), None, None), (), True, False)
>>> kept = both[:3] + ((at[2], zero, 3, 4, None), (zero, at[0], 4, None, None))
>>> goals_of((4, 1), kept, 2), may_be_open(kept, 3), goal_threading(kept, 2, 0)[2] in (0, 1), can_all(kept, ((0, 4), (3, None)))
((0, 1, 2, 3), True, True, True)
>>> stuck = ((0, 4), (1, None))
>>> [is_pairs_bar(kept, stuck, ("over", 0, own, (0, 1))) for own in (2, 4)], held_over(kept, stuck, 0, 4), end_in(both, (None, None, 1, 0), 0)
([True, False], (1,), 3)
>>> goal_threading(both, 0, 3)
raises NoPaper()
"""

JUDGE = """
>>> ward, low_one, high_one = (2, 0, None, True, True), (0, (0,), 2, 7), (1, (0,), 2, 9)
>>> eve = ((3, 1), ((), ()), (ward,), ((1, low_one), (1, high_one), None), 0, (((), (), (1,)),), (), ())
>>> walk, twin = (((), ()), ((), (0, 1))), eve[:5] + ((((), (), ()),),) + eve[6:]
>>> dusk = sight_of(played_out(eve, walk))
>>> paper(("may", dusk, 2, 0)), shows(("may", dusk, 2, 2), (0, 1, 2)), shows(("may", dusk, 2, 0), (0, 1, 2))
((0, 2), False, None)
>>> shows(("pairs", dusk, ((0, 2), (1, 2))), ("twice", 0, 1)), shows(("pairs", dusk, ((0, 3), (1, 2))), (None, None, 1, 0))
(False, True)
>>> halves = ((0, ((0, (1, 1)),)), (1, ((1, (1, 1)),)), (2, ((0, (1, 2)), (1, (1, 2)))))
>>> shows(("share", dusk, 2, 0, (1, 2)), halves), shows(("share", dusk, 2, 0, (2, 3)), halves)
(True, False)
>>> is_so(("goal", (3, 1), dusk, 0, 2)), shows(("goal", (3, 1), dusk, 0, 1), (0, 2, 3)), is_so(("suspect", (3, 1), (dusk,), 0, 1))
(True, False, False)
>>> is_so(("alike", eve, walk, twin)), shows(("alike", eve, walk, twin), ((0, 1),)), shows(("alike", eve, walk, twin), ())
(True, True, None)
>>> paper(("weak", ward, 2, 0)), paper(("enough", 2, ((), ()), (ward,))), paper(("enough", 3, ((), ()), (ward,)))
(2, (2,), 0)
>>> not_so((("may", dusk, 2, 2), ("may", dusk, 2, 1))), words_so((("may", dusk, 2, 1), ("weak", ward, 2, 0)))
((0,), ('may',))
>>> is_claim(("may", dusk, 9, 9)), is_claim(("may", dusk, 2)), is_claim(("share", dusk, 2, 0, (2, 1)))
(True, False, False)
>>> is_so(("may", dusk, 9, 0))
raises NoToken(token=9)
>>> is_so(("bold", dusk))
raises NoWord(word='bold')
"""

TEXTS = r"""
>>> note, mine, safe = (0, (0, 1), 2, 7), (1, (0,), 0, 9), (1, 0, None, True, True)
>>> town = ((3, 2), ((2,), (1,)), (safe, safe), ((1, note), (1, mine), None), 0, (((), (), (1,)), ((), (), ())), (), ())
>>> acts = (((), ()), (((2, (0,), 1, 5),), (0, 1)))
>>> early, late = views_along(town, acts)[1:]
>>> letter_text(note), read_letter("1 0 0 9") == mine, choice_text(acts[1])
('0 0,1 2 7', True, 'choice\n letter 2 0 1 5\n comes 0,1')
>>> world_text(town)
'world 3 2\n persons 2\n houses 1\n rule 1 0 - yes yes luck 1\n rule 1 0 - yes yes\n wish 1 0 0,1 2 7\n wish 1 1 0 0 9\n wish -'
>>> read_world(world_text(town)) == town, view_text(early), wishes_text((None,))
(True, 'view\n p0 h0 1\n p1 h0 1', 'wishes\n wish -')
>>> news(early, late)
' p2 h0 2 own 2 0 1 5 0\n h0 p0 2\n h0 h1 2\n h1 p2 2 opened 4 word 7'
>>> grown(early, news(early, late)) == late, read_plan(""), read_view("view\n again 2 0")
(True, (), ((), ((2, 0),)))
>>> read_letter("1 1,0 0 9")
raises BadText(place=1)
>>> read_world("world 1 1\n rule 1 0 - yes no")
raises BadLine(number=3)
>>> read_plan("choice\n comes 0\n letter 0 0 0 1")
raises BadLine(number=3)
"""

SHELL = r"""
>>> here = session(first_desk(), "world\n world 2 1\n  rule 2 0 - yes yes luck 1\n  wish 1 0 0 1 7\n  wish 1 1 0 0 9")[0]
>>> desk, told = session(here, "go\nseen\ngo\nnow\nmany\nwho 2\nshare 2 0\nwho 0\ncut 2 0\nother 0 1\nlies 0\nwho 4\nundo\nnow\nundo\nundo\nundo")
>>> told[:8]
('done', 'view\n p0 h0 1\n p1 h0 1', 'done', '2 4', '2', '0 1', '1/2', '0')
>>> told[8:]
('refused NoPaper', 'refused NoPaper', '-', 'refused NoToken', 'go', '1 2', 'go', 'world', 'refused NothingDone')
>>> is_request("step"), is_request("step\n choice"), is_request("back 07")
(False, True, False)
>>> session(here, "go\nlook")
raises BadLine(number=2)
"""
