"""Tables of senders and ENDS, and LINKS, beside counting the THREADINGS that have them; edges and errors."""

from fractions import Fraction
from itertools import chain, combinations
from unittest import TestCase

from sendershade.errors import NoPaper, NoToken, TooMany, Unfit
from sendershade.shares import lying_shares, share, share_table
from sendershade.sights import all_outs, is_known
from sendershade.tables import (alike_rows, all_senders, changed_by, end_table, ends, fewest_links, how_many_with,
                                is_end_table, link_share, links_of, share_with, shares_with, sure_senders)
from sendershade.threads import all_threadings, how_many, still_lying
from tests import plain
from tests.scenes import some_sights
from tests.sights import LONE, MIXED, POOL, TWICE, crowd
from tests.values import broken, listed

ALL, HALF, NONE = (1, 1), (1, 2), (0, 1)
# One is sent and never taken; one lies; one is opened by HOUSE 1, the rest's.
LEFT = ((("person", 0), ("house", 0), 1, 2, None), (("person", 1), ("house", 0), 1, None, None),
        (("person", 2), ("house", 0), 1, 2, None), (("person", 3), ("house", 1), 1, None, None),
        (("house", 1), ("house", 2), 1, None, ("opened", 3)), (("house", 0), ("house", 2), 2, None, None))


class TestEnds(TestCase):

    def test_ends(self):
        self.assertEqual((all_senders(MIXED), ends(MIXED)), ((0, 1), (("token", 3), ("token", 6))))
        self.assertEqual((all_senders(LEFT), ends(LEFT)),
                         ((0, 1, 2, 3), (("token", 1), ("token", 4), ("token", 5), ("house", 0))))
        self.assertEqual(end_table(LEFT), ((NONE, NONE, HALF, HALF), (ALL, NONE, NONE, NONE),
                                           (NONE, NONE, HALF, HALF), (NONE, ALL, NONE, NONE)))
        self.assertEqual((sure_senders(LEFT), alike_rows(LEFT)), (((1, 1), (4, 3)), ((0, 2), (1,), (3,))))
        self.assertEqual((ends(POOL[:3]), end_table(POOL[:3])), ((("house", 0),), ((ALL,), (ALL,), (ALL,))))
        self.assertEqual((sure_senders(POOL[:3]), alike_rows(POOL[:3])), ((), ((0, 1, 2),)))
        self.assertEqual((sure_senders(LONE), alike_rows(LONE)), (((2, 1), (3, 2)), ((1,), (2,))))

    def test_empty(self):
        self.assertEqual([call(()) for call in (all_senders, ends, end_table, sure_senders, alike_rows)], [()] * 5)
        self.assertIs(is_end_table((), ()), True)
        self.assertIs(is_end_table((), []), False)

    def test_letters_of_the_rest_alone(self):
        self.assertEqual([call(MIXED[:1]) for call in (all_senders, ends, end_table)], [()] * 3)

    def test_is_end_table(self):
        for sight in (LEFT, MIXED, POOL):
            table = end_table(sight)
            self.assertIs(is_end_table(sight, table), True)
            for thing in broken(table):
                self.assertIs(is_end_table(sight, thing), False, thing)
            for thing in (None, (), [], listed(table), table[:-1], table[::-1] + ((),), table + table[:1]):
                self.assertIs(is_end_table(sight, thing), False, thing)
        self.assertIs(is_end_table(POOL[:3], ((ALL,), (ALL,), ((True, 1),))), False)
        self.assertIs(is_end_table(POOL[:3], ((ALL,), (ALL,), ((2, 2),))), False)

    def test_far_too_many(self):
        sight = crowd(8, 7, 5)
        self.assertEqual(end_table(sight), (((1, 8),) * 8,) * 8)
        self.assertEqual(ends(sight)[-2:], (("token", len(sight) - 1), ("house", 4)))


class TestLinks(TestCase):

    def test_none(self):
        self.assertEqual([how_many_with(sight, ()) for sight in (POOL, MIXED, LEFT, ())], [4, 2, 2, 1])
        self.assertEqual([shares_with(POOL, (), token) for token in range(5)], list(share_table(POOL)))

    def test_counted(self):
        for links, many in ((((3, 0),), 2), (((4, 0),), 1), (((4, 2),), 2), (((3, 2),), 0), (((3, 0), (4, 0)), 0),
                            (((3, 0), (4, 2)), 1), (((0, 1),), 0), (((3, 4),), 0), (((4, 3),), 0)):
            self.assertEqual(how_many_with(POOL, links), many, links)
        # What is no out: one from a PERSON, a known one, one that the rest opened.
        for links, many in ((((4, 0),), 2), (((6, 5),), 2), (((4, 1),), 0), (((6, 4),), 0), (((1, 0),), 0),
                            (((4, 0), (6, 5)), 2), (((3, 1), (4, 0)), 1), (((3, 0),), 0), (((4, 0), (5, 0)), 0)):
            self.assertEqual(how_many_with(MIXED, links), many, links)

    def test_shares_with(self):
        self.assertEqual([shares_with(POOL, ((3, 0),), token) for token in (3, 4)],
                         [((0, ALL),), ((1, HALF), (2, HALF))])
        self.assertEqual([shares_with(POOL, ((4, 1),), token) for token in (3, 4)], [((0, ALL),), ((1, ALL),)])
        self.assertEqual([share_with(POOL, ((3, 0),), 4, person) for person in (0, 1, 2, 9)], [NONE, HALF, HALF, NONE])
        self.assertEqual(shares_with(MIXED, ((4, 0), (6, 5)), 6), ((0, HALF), (1, HALF)))

    def test_errors_in_order(self):
        calls = ((how_many_with, ()), (shares_with, (0,)), (share_with, (0, 0)), (changed_by, (3, 0)))
        wrong = ((((3, 9), (8, 0)), 9), (((3, 9), (3, -1)), 9), (((-1, 9),), -1), (((3, 0), (3, 5)), 5),
                 (((0, 1), (0, 2), (1, 77)), 77))
        for call, more in calls:
            for links, token in wrong:
                self.check_no_token(token, call, POOL, links, *more)
            for links in (((3, 0), (3, 1)), ((0, 1), (0, 2)), ((2, 0), (3, 0), (3, 0))):
                self.assertRaises(Unfit, call, POOL, links, *more)
                self.assertRaises(Unfit, call, POOL, links, *[99 for _ in more])
        for call, more in calls[1:3]:
            for token in (-1, 5):
                self.check_no_token(token, call, POOL, ((3, 2),), token, *more[1:])
            self.assertRaises(NoPaper, call, POOL, ((3, 2),), *more)

    def test_changed_by_errors(self):
        for token, of, wrong in ((5, 6, 5), (0, 6, 6), (-1, 9, -1), (3, -2, -2)):
            self.check_no_token(wrong, changed_by, POOL, ((3, 2),), token, of)
        self.assertRaises(Unfit, changed_by, POOL, ((3, 0),), 3, 0)
        self.assertRaises(Unfit, changed_by, POOL, ((3, 2),), 3, 0)
        self.check_no_token(9, changed_by, POOL, ((3, 0),), 3, 9)
        for links, token, of in ((((3, 2),), 4, 0), ((), 3, 2), (((3, 0),), 4, 0), ((), 0, 1)):
            self.assertRaises(NoPaper, changed_by, POOL, links, token, of)

    def check_no_token(self, token, call, *given):
        with self.assertRaises(NoToken) as caught:
            call(*given)
        self.assertEqual(caught.exception.token, token)

    def test_changed_by(self):
        self.assertEqual([changed_by(POOL, (), 3, 0), changed_by(POOL, (), 4, 2), changed_by(POOL, ((3, 0),), 4, 2)],
                         [(3, 4), (4,), (4,)])
        self.assertEqual([changed_by(MIXED, (), 4, 0), changed_by(MIXED, (), 3, 2)], [(), (3, 5, 6)])

    def test_link_shares(self):
        links = ((3, 0), (4, 2), (4, 0), (3, 2), (0, 1), (3, 3))
        self.assertEqual([link_share(POOL, token, of) for token, of in links], [HALF, HALF, (1, 4), NONE, NONE, NONE])
        self.assertEqual([links_of(POOL, token) for token in (0, 3, 4)],
                         [(), ((0, HALF), (1, HALF)), ((0, (1, 4)), (1, (1, 4)), (2, HALF))])
        self.assertEqual([links_of(MIXED, token) for token in (4, 6)], [((0, ALL),), ((5, ALL),)])
        for token, of, wrong in ((-1, 9, -1), (5, 0, 5), (0, 5, 5), (0, -1, -1)):
            self.check_no_token(wrong, link_share, POOL, token, of)
        for token in (-1, 5):
            self.check_no_token(token, links_of, POOL, token)

    def test_far_too_many(self):
        sight = crowd(8, 7, 5)
        self.assertEqual(how_many_with(sight, ((8, 0), (9, 1))) * 56, how_many(sight))
        self.assertEqual(shares_with(sight, ((8, 0),), 8), ((0, ALL),))
        self.assertEqual(share_with(sight, ((8, 0),), 9, 0), NONE)
        self.assertEqual(share_with(sight, ((8, 0), (16, 8)), 16, 0), ALL)
        self.assertEqual((link_share(sight, 20, 9), links_of(sight, 20)[0]), ((1, 8), (8, (1, 8))))
        self.assertEqual(changed_by(sight, (), 8, 0), tuple(range(8, 16)))


class TestFewest(TestCase):

    def test_told(self):
        threading = (None, None, None, 0, 1)
        self.assertEqual([fewest_links(POOL, threading, token) for token in range(5)],
                         [(), (), (), ((3, 0),), ((4, 1),)])
        self.assertEqual(fewest_links(MIXED, (None, None, None, 2, 0, 1, 5), 6), ((3, 2),))
        self.assertEqual(fewest_links(TWICE, (None, None, 0, 1, 3), 4), ((2, 0), (4, 3)))
        self.assertEqual(fewest_links((POOL[:3]), (None,) * 3, 0), ())

    def test_errors(self):
        for outs, people, known in ((8, 8, True), (9, 9, False)):
            sight = crowd(people, outs)
            threading = (None,) * people + tuple(range(outs))
            if known:
                self.assertEqual(fewest_links(sight, threading, people + 3), ((people + 3, 3),))
                self.assertEqual(fewest_links(sight, threading, 0), ())
            else:
                self.assertRaises(TooMany, fewest_links, sight, threading, 0)
            for token in (-1, len(sight)):
                with self.assertRaises(NoToken) as caught:
                    fewest_links(sight, threading, token)
                self.assertEqual(caught.exception.token, token)


class TestRuns(TestCase):

    def setUp(self):
        self.sights = [(net, sight) for net, _, sight in some_sights(70) if how_many(sight) <= 60]

    def test_ends(self):
        for net, sight in self.sights:
            rows = all_threadings(sight)
            people = sorted({row[0][1] for row in sight if row[0][0] == "person" and not plain.known(row)})
            opened = [row[4][1] for row in sight if row[4] is not None and row[4][0] == "opened"]
            tokens = [token for token, row in enumerate(sight) if not is_known(sight, token)
                      and (row[1][0] == "person" or (row[3] is None and token not in opened))]
            houses = [house for house in range(net[1]) if still_lying(sight, rows[0], house)]
            wanted = tuple([("token", token) for token in tokens] + [("house", house) for house in houses])
            self.assertEqual((all_senders(sight), ends(sight)), (tuple(people), wanted))
            table = end_table(sight)
            self.assertIs(is_end_table(sight, table), True)
            for person, row in zip(people, table):
                self.assertEqual([Fraction(*part) for part in row],
                                 [self.part_at(sight, rows, person, end) for end in wanted])
                self.assertEqual(sum(Fraction(*part) for part in row), 1)
            for place, (word, own) in enumerate(wanted):
                column = sum(Fraction(*row[place]) for row in table)
                self.assertEqual(column, 1 if word == "token" else lying_shares(sight, own)[0])
            self.assertEqual(sure_senders(sight), tuple((token, person) for token in tokens for person in range(net[0])
                                                        if share(sight, token, person) == ALL))
            groups = {tuple(other for other, mine in zip(people, table) if mine == row) for row in table}
            self.assertEqual(alike_rows(sight), tuple(sorted(groups)))

    def part_at(self, sight, rows, person, end):
        """The part of all THREADINGS in which the letter of person is at this END."""
        word, own = end
        found = 0
        for row in rows:
            tokens = [own] if word == "token" else still_lying(sight, row, own)
            found += person in [plain.sender(sight, row, token) for token in tokens]
        return Fraction(found, len(rows))

    def test_links(self):
        for net, sight in self.sights:
            rows = all_threadings(sight)
            single = [(token, own) for token in range(len(sight)) for own in range(len(sight))]
            for token, own in single:
                part = Fraction(len([row for row in rows if row[token] == own]), len(rows))
                self.assertEqual(Fraction(*link_share(sight, token, own)), part)
            for token in range(len(sight)):
                told = links_of(sight, token)
                self.assertEqual(told, tuple((own, link_share(sight, token, own)) for own in range(len(sight))
                                             if link_share(sight, token, own) != NONE))
            for links in self.some_links(sight, rows):
                self.check_links(sight, rows, links)

    def some_links(self, sight, rows):
        outs = all_outs(sight)[:4]
        told = [()]
        for row in rows[::1 + len(rows) // 3]:
            told.append(tuple((token, row[token]) for token in all_outs(sight)))
            told.extend(tuple((token, row[token]) for token in part) for part in combinations(outs, 2))
        for one in outs:
            told.extend(((one, own),) for own in plain.candidates(sight, one))
            told.extend(((one, own), (other, own)) for other in outs if one < other
                        for own in plain.candidates(sight, one)[:2])
        return told

    def check_links(self, sight, rows, links):
        having = [row for row in rows if all(row[token] == own for token, own in links)]
        self.assertEqual(how_many_with(sight, links), len(having))
        for token in range(0, len(sight), 2):
            if not having:
                self.assertRaises(NoPaper, shares_with, sight, links, token)
                self.assertRaises(NoPaper, share_with, sight, links, token, 0)
                continue
            wanted = plain.shares(sight, having, token)
            self.assertEqual(shares_with(sight, links, token), wanted)
            self.assertEqual([share_with(sight, links, token, person) for person in range(8)],
                             [dict(wanted).get(person, NONE) for person in range(8)])

    def test_changed_by(self):
        for net, sight in self.sights[:90]:
            rows = all_threadings(sight)
            for row in rows[::1 + len(rows) // 3]:
                outs = all_outs(sight)
                for links in [()] + [((token, row[token]),) for token in outs[:2]]:
                    less = [own for own in rows if all(own[token] == of for token, of in links)]
                    for token in [token for token in outs if token not in dict(links)][:3]:
                        more = [own for own in less if own[token] == row[token]]
                        wanted = [own for own in range(len(sight))
                                  if plain.shares(sight, less, own) != plain.shares(sight, more, own)]
                        self.assertEqual(changed_by(sight, links, token, row[token]), tuple(wanted))

    def test_fewest(self):
        for net, sight in self.sights:
            rows, outs = all_threadings(sight), all_outs(sight)
            if len(outs) > 8:
                self.assertRaises(TooMany, fewest_links, sight, rows[0], 0)
                continue
            for row in rows[::1 + len(rows) // 2]:
                links = [(token, row[token]) for token in outs]
                parts = list(chain(*[combinations(links, many) for many in range(len(links) + 1)]))
                for token in range(0, len(sight), 2):
                    fit = [part for part in parts if self.is_sure(sight, rows, part, token)]
                    self.assertEqual(fewest_links(sight, row, token), min(fit, key=lambda part: (len(part), part)))

    def is_sure(self, sight, rows, links, token):
        having = [row for row in rows if all(row[own] == of for own, of in links)]
        return len({plain.sender(sight, row, token) for row in having}) == 1
