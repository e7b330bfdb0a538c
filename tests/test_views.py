"""VIEWS: tags, rows, what came again; where two part; links and ends; what is a VIEW, asked of many wrong ones."""

from unittest import TestCase

from sendershade.errors import NoToken, Unfit
from sendershade.plans import played
from sendershade.views import (first_parted, hidden_in, is_view, own_letters, row_ends, row_links, same_view, seen_at,
                               tag_of, told_words, view_of, view_till, views_along)
from tests.model import some_run, spot_of
from tests.plain import view_form
from tests.scenes import other_parts, rows_changed, some_scene
from tests.values import broken, listed

MIX, OUT = (2, 0, None, True, True), (1, 0, None, True, True)
FIRST, SECOND, OWN = (0, (0, 1), 2, 7), (1, (0,), 0, 9), (2, (0,), 1, 5)
NET, REST = (3, 2), ((2,), (1,))
START = (NET, REST, (MIX, OUT), ((1, FIRST), (1, SECOND), None), 0, (((), (), (1,)), ((), (), ())), (), ())
PLAN = (((), ()), ((OWN,), (0, 1)), ((OWN,), (2,)))
ZERO, ONE, HERE, BAD = ("person", 0), ("person", 1), ("house", 0), ("house", 1)
EMPTY = ((), ())


def plain_view(world):
    """The VIEW, row by row as [3] tells it."""
    rest, rows = world[1], []
    for letter, place in [row[0] for row in world[6]]:
        token = len(rows)
        tag, word = None, None
        if letter[0] in rest[0]:
            tag = ("own", letter, place)
        elif place > 0 and letter[1][place - 1] in rest[1]:
            tag = ("opened", [row[0] for row in world[6]].index((letter, place - 1)))
        if place == len(letter[1]) and letter[2] in rest[0]:
            word = letter[3]
        rows.append((world[6][token][1], spot_of((letter, place)), world[6][token][2], tag, word))
    return (tuple(rows), world[7])


class TestTold(TestCase):

    def setUp(self):
        self.along = played(START, PLAN)
        self.views = views_along(START, PLAN)

    def test_empty(self):
        self.assertEqual(view_of(START), EMPTY)
        self.assertEqual(views_along(START, ()), [EMPTY])
        self.assertEqual([call(EMPTY) for call in (hidden_in, told_words, own_letters, row_ends)], [()] * 4)
        self.assertEqual((seen_at(EMPTY, 1), view_till(EMPTY, 9), first_parted(EMPTY, EMPTY)), (EMPTY, EMPTY, None))
        self.assertIs(is_view(NET, REST, EMPTY), True)
        for call, given in ((tag_of, START), (row_links, EMPTY)):
            with self.assertRaises(NoToken) as caught:
                call(given, 0)
            self.assertEqual(caught.exception.token, 0)

    def test_tags(self):
        last = self.along[3]
        self.assertEqual([tag_of(last, token) for token in range(6)],
                         [None, None, ("own", OWN, 0), None, None, ("opened", 4)])
        for token in (-1, 6, 100):
            for call, given in ((tag_of, last), (row_links, self.views[3])):
                with self.assertRaises(NoToken) as caught:
                    call(given, token)
                self.assertEqual(caught.exception.token, token)

    def test_views(self):
        self.assertEqual(self.views, [view_of(world) for world in self.along])
        self.assertEqual(self.views[1], (((ZERO, HERE, 1, None, None), (ONE, HERE, 1, None, None)), ()))
        self.assertEqual(self.views[3][1], ((3, 2),))
        self.assertEqual(self.views[3][0], self.views[2][0])
        self.assertEqual(views_along(self.along[1], PLAN[1:]), self.views[1:])

    def test_unfit_plan(self):
        for plan in (None, 3, (None,), (((), (0,)),), (((), ()), ((FIRST,), ())), ((), ())):
            self.assertRaises(Unfit, views_along, START, plan)

    def test_till(self):
        view = self.views[3]
        self.assertEqual([view_till(view, moment) for moment in (-2, 0, 1, 2, 3, 30)],
                         [EMPTY, EMPTY, self.views[1], self.views[2], view, view])

    def test_parted(self):
        view = self.views[3]
        self.assertEqual([first_parted(view, own) for own in self.views], [1, 2, 3, None])
        self.assertEqual([first_parted(own, view) for own in self.views], [1, 2, 3, None])
        # Two rows of one moment, exchanged; a word; a pair of again of the moment of a row.
        rows = view[0]
        self.assertEqual(first_parted(view, (rows[:3] + (rows[4], rows[3]) + rows[5:], view[1])), 2)
        self.assertEqual(first_parted(view, (rows[:5] + (rows[5][:4] + (8,),), view[1])), 2)
        self.assertEqual(first_parted(view, (rows, ((2, 0),) + view[1])), 2)
        self.assertEqual(first_parted(view, (rows, ((3, 1),))), 3)

    def test_same(self):
        other = START[:3] + (((1, (0, (0, 1), 2, 7)), (1, (1, (0,), 1, 9)), None),) + START[4:]
        self.assertIs(same_view(other, START), True)
        self.assertIs(same_view(played(other, PLAN[:1])[1], self.along[1]), True)
        self.assertIs(same_view(played(other, PLAN[:2])[2], self.along[2]), False)
        self.assertIs(same_view(self.along[2], self.along[3]), False)

    def test_seen(self):
        view = (self.views[2][0], ((2, 0), (3, 2), (3, 0), (3, 2)))
        self.assertEqual([seen_at(view, moment) for moment in (0, 1, 2, 3, 4)],
                         [EMPTY, ((0, 1), ()), ((2, 3, 4, 5), (0,)), ((), (2, 0, 2)), EMPTY])

    def test_asked(self):
        view = self.views[3]
        self.assertEqual((hidden_in(view), told_words(view), own_letters(view)), ((0, 1, 3, 4), ((5, 7),), (OWN,)))
        self.assertEqual([row_links(view, token) for token in range(6)], [(0,), (1,), (2,), (3,), (4,), (4, 5)])
        self.assertEqual(row_ends(view), (0, 1, 2, 3, 5))

    def test_a_word_of_0_and_letters_in_order(self):
        one, two = (2, (0,), 2, 0), (2, (0,), 1, 0)
        view = view_of(played(START, (((one, two), ()), ((), (0,)), ((), (2, 0, 3))))[3])
        self.assertEqual(own_letters(view), (two, one))
        self.assertEqual(told_words(view), ((5, 7), (6, 0)))

    def test_links_of_own_covers(self):
        letter = (2, (0, 1), 0, 4)
        start = START[:3] + ((None, (1, SECOND), None),) + START[4:]
        view = views_along(start, (((letter,), ()), ((), (0, 1))))[2]
        self.assertEqual([row[3] for row in view[0]],
                         [("own", letter, 0), None, None, ("own", letter, 1), ("own", letter, 2)])
        self.assertEqual([row_links(view, token) for token in (0, 3, 4)], [(0,), (0, 3), (0, 3, 4)])
        self.assertEqual(row_ends(view), (1, 2, 4))

    def test_through_two_houses_of_the_rest(self):
        letter = (0, (0, 1), 1, 3)
        start = ((2, 2), ((1,), (0, 1)), (OUT, OUT), ((1, letter), None), 0, (((), (), ()),) * 2, (), ())
        view = views_along(start, (((), ()),))[1]
        self.assertEqual([row[3:] for row in view[0]], [(None, None), (("opened", 0), None), (("opened", 1), 3)])
        self.assertEqual((row_links(view, 2), row_ends(view), hidden_in(view)), ((0, 1, 2), (2,), (0,)))


class TestIsView(TestCase):

    def check(self, net, rest, thing):
        self.assertIs(is_view(net, rest, thing), view_form(net, rest, thing), (net, rest, thing))

    def test_wrong_things(self):
        view = views_along(START, PLAN)[3]
        self.assertIs(is_view(NET, REST, view), True)
        for thing in (None, True, 0, "", "ab", (), [], ((),), ((), (), ()), (None, ()), ((), None), ([], ()), ((), []),
                      ((None,), ()), ((), (None,)), (((),), ()), ((), ((),)), ((1,), (1,)), view[0], list(view),
                      listed(view), (view, ()), (list(view[0]), view[1]), (view[0], list(view[1]))):
            self.assertIs(is_view(NET, REST, thing), False, thing)
        for thing in broken(view):
            self.check(NET, REST, thing)

    def test_table(self):
        rows = ((ZERO, HERE, 1, None, None), (ONE, BAD, 1, None, None), (BAD, ZERO, 1, ("opened", 1), None))
        right = (rows, ())
        self.assertIs(is_view(NET, REST, right), True)
        for place, way, part in ((0, 2, 2), (0, 2, 0), (0, 2, True), (0, 0, ("person", 2)), (0, 0, BAD),
                                 (0, 1, ("house", 2)), (0, 4, 3), (2, 2, 2), (2, 0, HERE), (2, 3, None),
                                 (2, 3, ("opened", 0)), (2, 3, ("opened", True)), (2, 3, ["opened", 1]),
                                 (2, 3, ("opened", 1, 0)), (2, 1, BAD), (0, 1, BAD), (2, 3, ("own", OWN, 1)),
                                 (2, 1, ("person", 2)), (0, 3, ("own", OWN, 0)), (0, 3, ("opened", 0))):
            self.assertIs(is_view(NET, REST, (self.put(rows, place, way, part), ())), False, (place, way, part))
        for place, way, part in ((0, 0, HERE), (0, 1, ZERO), (0, 0, ONE), (2, 1, HERE)):
            self.assertIs(is_view(NET, REST, (self.put(rows, place, way, part), ())), True, (place, way, part))
        self.assertIs(is_view(NET, REST, (self.put(rows, 2, 1, ("person", 2))[:2], ())), False)

    def put(self, rows, place, way, part):
        return rows[:place] + (rows[place][:way] + (part,) + rows[place][way + 1:],) + rows[place + 1:]

    def test_words(self):
        for word, known in ((0, True), (7, True), (10 ** 9, True), (None, False), (-1, False), (True, False),
                            ("7", False), ((7,), False)):
            self.assertIs(is_view(NET, REST, (((HERE, ("person", 2), 1, None, word),), ())), known, word)

    def test_persons_of_the_rest_open_nothing(self):
        rows = ((HERE, ("person", 2), 1, None, 4), (("person", 2), HERE, 1, ("opened", 0), None))
        self.assertIs(is_view(NET, REST, (rows[:1], ())), True)
        self.assertIs(is_view(NET, REST, (rows, ())), False)
        # Neither does anybody ahead of the first row.
        self.assertIs(is_view(NET, REST, (((BAD, ZERO, 1, ("opened", -1), None),), ())), False)

    def test_own_tags(self):
        two = ("person", 2)
        first, last = (two, HERE, 1, ("own", OWN, 0), None), (HERE, ONE, 2, ("own", OWN, 1), None)
        for rows, known in (((first, last), True), ((first,), True), ((last,), False), ((last, first), False),
                            ((first, first), False), ((first, last, last), False),
                            ((first[:1] + (BAD,) + first[2:],), False), ((first[:3] + (("own", OWN, 2), None),), False),
                            ((first[:3] + (("own", OWN, False), None),), False),
                            ((first[:3] + (("own", (0, (0,), 1, 5), 0), None),), False),
                            ((first[:3] + (("own", (2, (0,), 3, 5), 0), None),), False),
                            ((first[:3] + (("own", [2, (0,), 1, 5], 0), None),), False),
                            ((first[:3] + (None, None),), False)):
            self.assertIs(is_view(NET, REST, (rows, ())), known, rows)
        through = (2, (0, 1), 0, 4)
        way = ((two, HERE, 1, ("own", through, 0), None), (HERE, BAD, 2, ("own", through, 1), None),
               (BAD, ZERO, 2, ("own", through, 2), None))
        late = way[:2] + (way[2][:2] + (3,) + way[2][3:],)
        for rows, known in ((way, True), (way[:1], True), (way[:2], False), (late, False),
                            (way[:2] + (way[2][:3] + (("opened", 1), None),), False),
                            (way[:2] + ((ZERO, HERE, 2, None, None),) + way[2:], False)):
            self.assertIs(is_view(NET, REST, (rows, ())), known, rows)

    def test_again(self):
        rows = views_along(START, PLAN)[2][0]
        for again, known in ((((1, 0),), True), (((9, 0), (9, 5), (9, 0)), True), (((1, 2),), False),
                             (((2, 6),), False), (((2, -1),), False), (((3, 0), (2, 0)), False), (((0, 0),), False),
                             (((True, 0),), False), (((1, False),), False), (((2,),), False), (((2, 0, 0),), False),
                             (([2, 0],), False), (((None, 0),), False), (((2, None),), False)):
            self.assertIs(is_view(NET, REST, (rows, again)), known, again)

    def test_other_nets(self):
        view = views_along(START, PLAN)[3]
        for net, rest, known in (((3, 2), ((2,), ()), False), ((3, 2), ((), (1,)), False), ((9, 9), REST, True),
                                 ((2, 2), REST, False), ((3, 1), REST, False), ((3, 2), ((1, 2), (1,)), False)):
            self.assertIs(is_view(net, rest, view), known)

    def test_changed_ones(self):
        for number in range(40):
            start, _, along = some_scene(number)
            rows, again = view_of(along[-1])
            self.check(start[0], start[1], (rows, again))
            for other in rows_changed(rows, other_parts):
                self.check(start[0], start[1], (other, again))
            for other in rows_changed(again, lambda own, place: [(0, own[place][0] + 1), (1, own[place][1] + 2)]):
                self.check(start[0], start[1], (rows, other))


class TestRuns(TestCase):

    def setUp(self):
        self.runs = [some_scene(number)[2] for number in range(80)] + [some_run(number)[2] for number in range(80)]

    def test_beside_the_words(self):
        for along in self.runs:
            for world in along:
                view = view_of(world)
                self.assertEqual(view, plain_view(world))
                self.assertEqual([tag_of(world, token) for token in range(len(view[0]))], [row[3] for row in view[0]])
                self.assertIs(is_view(world[0], world[1], view), True)
                self.assertIs(same_view(world, along[-1]), view == view_of(along[-1]))

    def test_views_grow(self):
        for along in self.runs:
            last = view_of(along[-1])
            for moment, world in enumerate(along):
                self.assertEqual(view_till(last, moment), view_of(world))
                sent, again = seen_at(last, moment)
                rows, pairs = view_of(world)
                self.assertEqual(sent, tuple(token for token in range(len(rows)) if rows[token][2] == moment))
                self.assertEqual(again, tuple(token for then, token in pairs if then == moment))

    def test_parted_for_ever(self):
        views = [view_of(along[-1]) for along in self.runs]
        for near, far in zip(views, views[1:] + views[:1]):
            here = first_parted(near, far)
            for moment in range(12):
                alike = view_till(near, moment) == view_till(far, moment)
                self.assertIs(alike, here is None or moment < here)
            self.assertEqual(first_parted(far, near), here)

    def test_links(self):
        for along in self.runs:
            world, view = along[-1], view_of(along[-1])
            linked = []
            for token in range(len(view[0])):
                links = row_links(view, token)
                self.assertEqual(links[-1], token)
                self.assertEqual(list(links), sorted(set(links)))
                self.assertEqual({world[6][own][0][0] for own in links}, {world[6][token][0][0]})
                self.assertEqual(links[0] in hidden_in(view) or view[0][links[0]][3][0] == "own", True)
                for near, far in zip(links, links[1:]):
                    self.assertEqual(world[6][near][0][1] + 1, world[6][far][0][1])
                linked.extend(links[:-1])
            self.assertEqual(row_ends(view), tuple(token for token in range(len(view[0])) if token not in linked))
            rows = view[0]
            self.assertEqual(hidden_in(view), tuple(token for token, row in enumerate(rows) if row[3] is None))
            self.assertEqual(told_words(view), tuple((token, row[4]) for token, row in enumerate(rows)
                                                     if row[4] is not None))
            self.assertEqual(own_letters(view), tuple(sorted({row[0][0] for row in world[6]
                                                              if row[0][0][0] in world[1][0]})))
