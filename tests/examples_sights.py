"""The examples of the document for what rests on what the rest sees, in its order and its words."""

VIEWS = """
>>> mix, out = (2, 0, None, True, True), (1, 0, None, True, True)
>>> first, second = (0, (0, 1), 2, 7), (1, (0,), 0, 9)
>>> start = ((3, 2), ((2,), (1,)), (mix, out), ((1, first), (1, second), None), 0, (((), (), (1,)), ((), (), ())), (), ())
>>> plan = (((), ()), (((2, (0,), 1, 5),), (0, 1)))
>>> seen = views_along(start, plan)[2]
>>> seen[0][:3]
((('person', 0), ('house', 0), 1, None, None), (('person', 1), ('house', 0), 1, None, None), (('person', 2), ('house', 0), 2, ('own', (2, (0,), 1, 5), 0), None))
>>> seen[0][3:], seen[1]
(((('house', 0), ('person', 0), 2, None, None), (('house', 0), ('house', 1), 2, None, None), (('house', 1), ('person', 2), 2, ('opened', 4), 7)), ())
>>> row_links(seen, 5), row_ends(seen), hidden_in(seen), told_words(seen), own_letters(seen)
((4, 5), (0, 1, 2, 3, 5), (0, 1, 3, 4), ((5, 7),), ((2, (0,), 1, 5),))
>>> view_till(seen, 1) == views_along(start, plan)[1], first_parted(seen, view_till(seen, 1)), seen_at(seen, 2)
(True, 2, ((2, 3, 4, 5), ()))
>>> is_view((3, 2), ((2,), (1,)), seen), is_view((3, 2), ((2,), (1,)), (seen[0][:5], ())), is_view((3, 2), ((2,), ()), seen)
(True, False, False)
"""

SIGHTS = """
>>> rules, note, mine, other = ((3, 0, None, True, True),) * 2, (2, (0,), 1, 9), (0, (0, 1), 2, 5), (1, (0,), 0, 7)
>>> home, bad, one, two, three = ("house", 0), ("house", 1), ("person", 0), ("person", 1), ("person", 2)
>>> bins = (((), ((0, 2), (1, 2), (2, 2)), ()), ((), (), ()))
>>> first = (((note, 0), three, 1), ((mine, 0), one, 1), ((other, 0), two, 1))
>>> roads = first + (((other, 1), home, 2), ((note, 1), home, 2), ((mine, 1), home, 2), ((mine, 2), bad, 2))
>>> post = ((3, 2), ((2,), (1,)), rules, ((1, mine), (1, other), None), 2, bins, roads, ())
>>> sight = sight_of(post)
>>> sight[0][2:], sight[1], sight[6]
((1, 2, ('own', (2, (0,), 1, 9), 0)), (('person', 0), ('house', 0), 1, 2, None), (('house', 1), ('person', 2), 2, None, ('opened', 5)))
>>> known_tokens(sight), ins_of(sight, 0), outs_of(sight, 0), outs_of(sight, 1), come_home(sight), sent_by(sight, 1), sent_by(sight, 2)
((0, 4), (1, 2), (3, 5), (), (3, 6), 2, None)
>>> lies_ahead(sight, 3), lies_ahead(sight, 5), least_lying(sight), lying_behind(sight, 0, 1), emptied(sight, 0), sight_at(sight, 1)[2]
(2, 1, 1, 0, (2,), (('person', 1), ('house', 0), 1, None, None))
>>> is_sight((3, 2), ((2,), (1,)), sight), is_sight((3, 2), ((2,), ()), sight), is_sight((3, 2), ((2,), (1,)), sight[:6])
(True, False, False)
>>> lies_ahead(sight, 6)
raises Unfit()
"""

THREADS = """
>>> how_many(sight), all_threadings(sight)
(2, [(None, None, None, 1, 0, 2, 5), (None, None, None, 2, 0, 1, 5)])
>>> true = true_threading(post)
>>> true, number_of(sight, true), threading_at(sight, 0) == first_threading(sight), free_for(sight, true, 3), free_for(sight, true, 5)
((None, None, None, 2, 0, 1, 5), 1, True, (1, 2), (1,))
>>> way_back(sight, true, 6), sender_of(sight, true, 6), way_on(sight, true, 1), goes_on(sight, true, 6), homes(sight, true)
((6, 5, 1), 0, (1, 5, 6), None, ((0, 6), (1, 3)))
>>> [sender_of(sight, own, 6) for own in all_threadings(sight)], threadings_from(sight, 0, 6) == [true], still_lying(sight, true, 0)
([1, 0], True, ())
>>> is_threading(sight, (None, None, None, 1, 0, 1, 5)), is_threading(sight, (None, None, None, 0, 0, 1, 5)), is_threading(sight, list(true))
(False, False, False)
>>> threading_at(sight, 2)
raises Unfit()
"""

SWAPS = """
>>> home, goal = ("house", 0), ("person", 3)
>>> came = tuple([(("person", own), home, sent, sent + 1, None) for own, sent in ((0, 1), (1, 1), (2, 2))])
>>> outs = ((home, goal, 2, None, None), (home, goal, 3, None, None))
>>> pool, lone, one, other = came + outs, came[1:] + outs, (None, None, None, 0, 1), (None, None, None, 1, 2)
>>> lie_together(pool, one, 0, 2), swaps_of(pool, one), swapped(pool, one, (1, 2)), unlike_outs(one, other)
(False, ((0, 1), (1, 2)), (None, None, None, 0, 2), (3, 4))
>>> steps_apart(pool, one, other), first_swaps(pool, one, other), steps_apart(pool, one, one[:3] + (1, 0))
(2, ((0, 1), (1, 2)), 1)
>>> [is_swap_row(pool, one, other, own) for own in (((0, 1), (0, 2)), ((1, 2), (0, 1)), ((0, 2), (0, 1)), ((0, 1),))]
[True, True, False, False]
>>> always_together(pool), heaps(pool), heap_ways(pool, (0, 1, 2)), heaps(lone), heap_outs(lone, (1,))
(((0, 1),), ((0, 1, 2),), 4, ((0,), (1,)), (3,))
>>> swapped(pool, one, (0, 2))
raises Unfit()
"""

SHADES = """
>>> sources(pool, 3), sources(pool, 4), sources(lone, 3), may_come(pool, 3, 2), becomes(pool, 1), shades(pool)
((0, 1), (0, 1, 2), (1,), False, (3, 4), ((0,), (1,), (2,), (0, 1), (0, 1, 2)))
>>> sure_sender(lone, 3), sure_sender(pool, 3), chain(pool, 4, 0), is_chain(pool, (2, 3)), is_chain(pool, (4,)), threading_with(pool, (0, 4))
(2, None, (0, 4), False, False, (None, None, None, 1, 0))
>>> cut(pool, 3, 2), [is_cut(pool, 3, 2, own) for own in ((0, 1, 3), (0, 1, 2, 3), (0, 1, 3, 4), (3,))]
((0, 1, 3), [True, False, False, False])
>>> shades_apart(pool, 3, 2), shades_apart(pool, 3, 4), thinnest(pool), chain_count(pool, 4, 2)
(True, False, (2, 3), 1)
>>> two = came[:2] + ((home, ("house", 1), 2, 3, None), (home, ("house", 1), 2, 3, None), (("house", 1), goal, 3, None, None))
>>> sources(two, 4), shade(two, 4), chain_count(two, 4, 0), is_chain(two, (0, 3, 4)), threading_with(two, (0, 3, 4))
((2, 3), (0, 1), 2, True, (None, None, 1, 0, 3))
>>> chain(pool, 3, 2)
raises NoPaper()
>>> cut(pool, 4, 2)
raises NoPaper()
"""

SHARES = """
>>> home, hub = ("person", 0), ("house", 0)
>>> seen = ((home, hub, 1, 2, None), (("person", 1), hub, 1, 2, None), (hub, ("person", 2), 2, None, None), (("person", 2), hub, 2, 3, None), (hub, home, 3, None, None))
>>> shares_of(seen, 2), shares_of(seen, 4), share(seen, 4, 2), counted_share(seen, 4, 2), share(seen, 2, 2)
(((0, (1, 2)), (1, (1, 2))), ((0, (1, 4)), (1, (1, 4)), (2, (1, 2))), (1, 2), (1, 2), (0, 1))
>>> pool_at(seen, 4), lying_shares(seen, 0), greatest_share(seen, 4), greatest_share(seen, 2), sharers(seen, 4, (1, 3))
((2, ((0, (1, 2)), (1, (1, 2)), (2, (1, 1)))), (1, ((0, (1, 4)), (1, (1, 4)), (2, (1, 2)))), (2, (1, 2)), (0, (1, 2)), (2,))
>>> sheet = ((0, ((0, (1, 1)),)), (1, ((1, (1, 1)),)), (2, ((0, (1, 2)), (1, (1, 2)))))
>>> is_share_paper(seen, 2, sheet), is_share_paper(seen, 2, sheet[1:]), is_share_paper(seen, 1, sheet[:2]), is_share_paper(seen, 4, share_paper(seen, 4))
(True, False, True, True)
>>> share(seen, 5, 0)
raises NoToken(token=5)
>>> pool_at(seen, 3)
raises NoPaper()
"""

TABLES = """
>>> all_senders(seen), ends(seen), end_table(seen)
((0, 1, 2), (('token', 2), ('token', 4), ('house', 0)), (((1, 2), (1, 4), (1, 4)), ((1, 2), (1, 4), (1, 4)), ((0, 1), (1, 2), (1, 2))))
>>> alike_rows(seen), sure_senders(seen), how_many_with(seen, ()), how_many_with(seen, ((4, 3),)), how_many_with(seen, ((2, 0), (4, 0)))
(((0, 1), (2,)), (), 4, 2, 0)
>>> shares_with(seen, ((2, 0),), 4), share_with(seen, ((4, 3),), 4, 2), links_of(seen, 4), link_share(seen, 4, 3)
(((1, (1, 2)), (2, (1, 2))), (1, 1), ((0, (1, 4)), (1, (1, 4)), (3, (1, 2))), (1, 2))
>>> changed_by(seen, (), 4, 3), changed_by(seen, (), 2, 0), fewest_links(seen, (None, None, 0, None, 3), 4), fewest_links(seen, (None, None, 0, None, 3), 1)
((4,), (2, 4), ((4, 3),), ())
>>> shares_with(seen, ((2, 3),), 4)
raises NoPaper()
>>> how_many_with(seen, ((4, 0), (4, 3)))
raises Unfit()
"""

ALIKE = """
>>> calm, low, high = (2, 0, None, True, True), (0, (0,), 2, 7), (1, (0,), 0, 9)
>>> night = ((3, 1), ((2,), ()), (calm,), ((1, low), (1, high), None), 0, (((), (), ()),), (), ())
>>> talk, crossed = (((), ()), ((), (0, 1))), (None, None, 1, 0)
>>> luck_by(night, talk, crossed), luck_by(night, talk, (None, None, 0, 1)), wishes_by(night, talk, (None, None, 0, 1)) == night[3]
(((1, 0),), ((0, 0),), True)
>>> wishes_by(night, talk, crossed)
((1, (0, (0,), 0, 9)), (1, (1, (0,), 2, 7)), None)
>>> dawn = alike_world(night, talk, crossed)
>>> is_alike(night, talk, dawn), threading_of(night, talk, dawn), dawn[5], is_alike(night, talk, night[:5] + dawn[5:])
(True, (None, None, 1, 0), (((), (), (1, 0)),), False)
>>> len(all_alike(night, talk)), letters_by(night, talk, 0), is_other(night, talk, 2, 1, dawn), is_other(night, talk, 2, 0, dawn)
(2, ((0, (0,), 0, 9), (0, (0,), 2, 7)), True, False)
>>> is_other(night, talk, 2, 1, other_world(night, talk, 2, 1)), [own[5][0][2] for own in alike_along(night, talk, ((0, 1),))]
(True, [(0, 0), (1, 0)])
>>> other_world(night, talk, 0, 1)
raises NoPaper()
"""
