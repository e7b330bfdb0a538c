"""CLAIMS and their PAPERS: each beside what its point tells; shapes, errors in their order, wrong things."""

from fractions import Fraction
from random import Random
from unittest import TestCase

from sendershade.alike import all_alike, is_alike
from sendershade.errors import NoToken, NoWord, TooMany, Unfit
from sendershade.finds import is_finding
from sendershade.goals import is_goal_cut, is_goal_threading, is_pairs_bar
from sendershade.judge import is_claim, is_paper, is_so, not_so, paper, shows, words_so
from sendershade.plans import is_plan, played_out
from sendershade.rounds import is_clearing, is_round_paper
from sendershade.shades import is_chain, is_cut
from sendershade.shares import is_share_paper
from sendershade.sights import sight_of
from sendershade.swaps import is_swap_row
from sendershade.threads import how_many, is_threading, true_threading
from sendershade.views import view_of
from tests import plain
from tests.calls_finds import EVEN, FULL, FULL_PLAN, KEPT, MORE, NET, PAIR, REST, SLY, SLY_RULE, STUCK
from tests.calls_shades import DAWN, NIGHT, TALK
from tests.calls_shell import CLAIMS, HALVES, LATER, WRONG
from tests.scenes import some_scene, some_sights
from tests.sights import MIXED, MIXED_REST
from tests.values import broken, changed, listed, parts_of, wrong_for

WORDS = ("may", "goal", "pairs", "share", "alike", "weak", "enough", "suspect")
TRUE_ONES = CLAIMS[::2]
MAY = CLAIMS[0]


def outcome(call, *given):
    """What a call returns, or the error that it raises with what it keeps."""
    try:
        return repr(call(*given))
    except (LookupError, ValueError) as error:
        return f"{type(error).__name__} {vars(error)}"


class TestTold(TestCase):

    def test_so(self):
        self.assertEqual([is_so(claim) for claim in CLAIMS], [True, False] * 8)
        self.assertEqual(not_so(CLAIMS[:6]), (1, 3, 5))
        self.assertEqual(not_so(CLAIMS[::2][:6]), ())
        self.assertEqual((not_so(()), words_so(())), ((), ()))
        self.assertEqual(words_so(CLAIMS[:6]), ())
        self.assertEqual(words_so((CLAIMS[0], CLAIMS[2], CLAIMS[3], CLAIMS[10], CLAIMS[0])), ("may", "weak"))
        self.assertEqual(words_so(CLAIMS[10:16:2] + CLAIMS[:2]), ("enough", "suspect", "weak"))

    def test_papers(self):
        for claim in CLAIMS:
            told = paper(claim)
            self.assertIs(is_paper(claim, told), True, claim[0])
            self.assertIs(shows(claim, told), is_so(claim), claim[0])
            self.assertEqual(paper(claim), told)
        self.assertEqual(paper(CLAIMS[9]), 1)
        self.assertEqual((paper(CLAIMS[11]), paper(CLAIMS[12]), paper(CLAIMS[13])), (2, (2,), 0))

    def test_papers_of_the_other_kind_and_of_others(self):
        things = [paper(claim) for claim in CLAIMS]
        for claim in CLAIMS:
            for other, thing in zip(CLAIMS, things):
                if claim[0] != other[0] and not isinstance(thing, int):
                    self.assertIn(shows(claim, thing), (None, is_so(claim)))
                if claim[0] == other[0] != "share" and claim != other:
                    self.assertIsNone(shows(claim, thing), claim[0])

    def test_alike_numbers(self):
        # LATER has no letter of 1's at moment 1: its VIEW parts at once, and stays another one.
        claim = CLAIMS[9]
        self.assertEqual([shows(claim, own) for own in (0, 1, 2, 3, -1, True, None, (), (1,))],
                         [None, False, False] + [None] * 6)
        # Words are seen as they come to PERSON 2.
        other = NIGHT[:3] + (((1, (0, (0,), 2, 8)),) + NIGHT[3][1:],) + NIGHT[4:]
        self.assertEqual([shows(("alike", NIGHT, TALK, other), own) for own in range(4)], [None, None, False, None])
        self.assertEqual(paper(("alike", NIGHT, TALK, other)), 2)
        # The second CHOICE does not suit.
        plan = TALK[:1] + (((), (0,)),) + TALK[1:]
        none = NIGHT[:3] + ((None, None, None),) + NIGHT[4:]
        self.assertEqual([shows(("alike", NIGHT, plan, none), own) for own in range(5)], [None, False, False, False, None])
        self.assertIs(is_so(("alike", NIGHT, (), none)), True)
        self.assertEqual(paper(("alike", NIGHT, (), none)), ())

    def test_pairs_with_and_without(self):
        claim = ("pairs", KEPT, ((0, 4), (2, None)))
        for thing, known in (((None, None, 1, None, 0), True), ((None, None, 0, None, 1), None),
                             ((None, None, 1, None, 3), None), ((None, None, 1, None, 1), None)):
            self.assertIs(shows(claim, thing), known)
        self.assertIs(shows(("pairs", KEPT, ((0, None),)), (None, None, 1, None, 3)), True)
        self.assertIs(shows(("pairs", KEPT, ((0, None),)), (None, None, 0, None, 3)), None)

    def test_weak_numbers(self):
        # What is sure to be left may be below 1.
        self.assertEqual([shows(("weak", (3, 1, None, True, True), 2, 2), own) for own in (2, 1, 3, True, None, (2,), "2")],
                         [False] + [None] * 6)
        self.assertEqual([shows(("weak", (1, 0, None, True, True), 2, 3), own) for own in (-2, 1, 0)], [None] * 3)

    def test_enough_tuples(self):
        rules = (EVEN, SLY_RULE, (3, 1, None, True, True))
        self.assertEqual(paper(("enough", 2, ((), (1,)), rules)), (2, 4))
        for thing in ((2, 2, 4), (2,), (4, 2), [2, 4], (2, True), None, 0, ()):
            self.assertIsNone(shows(("enough", 2, ((), (1,)), rules), thing))
        told = [shows(("enough", 3, ((), ()), rules), own) for own in (0, 1, 2, 3, False, True, (0,), None)]
        self.assertEqual(told, [False, False] + [None] * 6)
        # Where there is no steady HOUSE all are enough.
        self.assertEqual(paper(("enough", 3, ((), (0,)), (EVEN,))), ())
        self.assertIs(is_so(("enough", 1, ((), ()), (EVEN[:2] + (4, True, True),))), False)


class TestErrors(TestCase):

    def test_words(self):
        for word in ("bold", "", "May", None, True, 0, -3, (), ("may",), ("may", ("goal", 3))):
            for claim in ((word,), (word, PAIR, 2, 0), [word, PAIR]):
                for call in (is_so, paper, lambda own: is_paper(own, None), lambda own: shows(own, (0, 2)),
                             lambda own: not_so((MAY, own)), lambda own: words_so([own])):
                    with self.assertRaises(NoWord) as caught:
                        call(claim)
                    self.assertEqual(repr(caught.exception.word), repr(word))
        with self.assertRaises(NoWord) as caught:
            is_so([["may", [1]], PAIR])
        self.assertEqual(caught.exception.word, ("may", (1,)))

    def test_sizes(self):
        claims = [()] + [claim[:place] for claim in TRUE_ONES for place in range(1, len(claim))]
        claims += [claim + (0,) for claim in TRUE_ONES]
        for claim in claims:
            for call in (is_so, paper, lambda own: is_paper(own, None), lambda own: shows(own, 0),
                         lambda own: not_so((own,)), lambda own: words_so((own, ("bold",)))):
                self.assertRaises(Unfit, call, claim)

    def test_what_the_points_raise(self):
        cases = [(("may", MIXED, 7, 0), "NoToken {'token': 7}"), (("may", MIXED, -1, 0), "NoToken {'token': -1}"),
                 (("goal", (3, 2), MIXED, 2, 0), "Unfit {}"), (("goal", (3, 2), MIXED, 9, 9), "Unfit {}"),
                 (("pairs", MIXED, ((0, 4),)), "Unfit {}"), (("share", MIXED, 7, 0, (1, 2)), "NoToken {'token': 7}")]
        late = played_out(NIGHT, TALK[:1])
        careless = NIGHT[:2] + ((EVEN[:2] + (3, True, True),),) + NIGHT[3:]
        cases += [(("alike", world, plan, other), "Unfit {}") for world, plan, other in (
            (late, (), NIGHT), (careless, TALK, careless), (NIGHT, TALK[1:], NIGHT), (NIGHT, TALK, late),
            (NIGHT, TALK, SLY), (NIGHT, TALK, NIGHT[:1] + (((), ()),) + NIGHT[2:]), (NIGHT, TALK, careless))]
        for claim, wanted in cases:
            for call in (is_so, paper, lambda own: is_paper(own, None), lambda own: shows(own, (0, 2)),
                         lambda own: not_so((MAY, own, ("bold",))), lambda own: words_so((own, own))):
                self.assertEqual(outcome(call, claim), wanted)

    def test_one_asked_whole_then_the_next(self):
        first, second = ("may", PAIR, 9, 0), ("bold",)
        for call in (not_so, words_so):
            self.assertRaises(NoToken, call, (MAY, first, second))
            self.assertRaises(NoWord, call, (MAY, second, first))
            self.assertRaises(Unfit, call, ((), second, first))

    def test_too_many(self):
        claim = ("weak", FULL[2][0], 9, 0)
        for call in (is_paper, shows):
            self.assertRaises(TooMany, call, claim, (FULL, FULL_PLAN, 9))
            # If there is no weakness a number shows it, and no FINDING is asked.
            self.assertIn(call(("weak", FULL[2][0], 2, 0), (FULL, FULL_PLAN, 9)), (False, None))


class TestShapes(TestCase):

    def test_right(self):
        for claim in CLAIMS:
            self.assertIs(is_claim(claim), True, claim[0])
        letter = (9, (4, 7), 8, 0)
        sights = ((), (PAIR[0],) * 3, MIXED, ((("house", 9), ("person", 8), 7, 1, ("opened", 99)),),
                  ((("house", 3), ("house", 3), 1, 1, ("own", letter, 2)),))
        for sight in sights:
            for claim in (("may", sight, 0, 10 ** 9), ("goal", (1, 1), sight, 7, 7), ("pairs", sight, ((0, None), (3, 3))),
                          ("share", sight, 5, 5, (0, 1)), ("share", sight, 5, 5, (1, 1)),
                          ("suspect", (2, 2), (sight, sight), 9, 9)):
                self.assertIs(is_claim(claim), True, claim)
        for claim in (("alike", NIGHT, (((letter, letter), (0, 0, 99)),), FULL),
                      ("alike", NIGHT, ((((0, (0,), 0, 0),), ()), ((), ())), FULL), ("alike", FULL, (), FULL), ("suspect", (2, 2), (), 0, 0),
                      ("weak", (1, 0, 5, False, False), 2, 0), ("enough", 1, ((0, 9), (8,)), (EVEN,)),
                      ("pairs", (), ())):
            self.assertIs(is_claim(claim), True, claim)

    def test_wrong_words_and_sizes(self):
        for claim in CLAIMS:
            for thing in (claim[1:], claim[:-1], claim + (0,), list(claim), (claim,), (claim[0].upper(),) + claim[1:],
                          ("",) + claim[1:], (None,) + claim[1:], ((),) + claim[1:], ([],) + claim[1:], (0,) + claim[1:]):
                self.assertIs(is_claim(thing), False)
        for thing in ((), None, True, 0, "may", [], {}, ("may",), (None,)):
            self.assertIs(is_claim(thing), False)

    def test_one_thing_changed(self):
        for claim in TRUE_ONES:
            for way, part in parts_of(claim):
                for wrong in wrong_for(part):
                    self.assertIs(is_claim(changed(claim, way, wrong)), False, (claim, way, wrong))

    def test_ranges(self):
        for claim in (("may", PAIR, -1, 0), ("may", PAIR, 0, -1), ("goal", (0, 1), PAIR, 0, 0), ("goal", (4, 1), PAIR, 0, -1),
                      ("goal", (4,), PAIR, 0, 0), ("pairs", PAIR, ((0,),)), ("pairs", PAIR, ((None, 0),)),
                      ("pairs", PAIR, ((0, -1),)), ("pairs", PAIR, (0, 1)), ("share", PAIR, 0, 0, (2, 1)),
                      ("share", PAIR, 0, 0, (-1, 2)), ("share", PAIR, 0, 0, (2, 4)), ("share", PAIR, 0, 0, (1, 0)),
                      ("share", PAIR, 0, 0, 1), ("alike", NIGHT, TALK, played_out(NIGHT, TALK)), ("alike", NIGHT, TALK, None),
                      ("alike", NIGHT, (((), (-1,)),), NIGHT), ("alike", NIGHT, (((),),), NIGHT),
                      ("alike", NIGHT, ((((0, (), 0, 0),), ()),), NIGHT), ("alike", NIGHT, ((((0, (1, 1), 0, 0),), ()),), NIGHT),
                      ("alike", NIGHT, ((((0, (1,), 0, -1),), ()),), NIGHT), ("alike", NIGHT[:7], TALK, NIGHT),
                      ("weak", EVEN, 1, 0), ("weak", EVEN, 2, -1), ("weak", EVEN[:4], 2, 0), ("enough", 0, REST, (EVEN,)),
                      ("enough", 1, REST, ()), ("enough", 1, ((1, 1), ()), (EVEN,)), ("enough", 1, ((), (-1,)), (EVEN,)),
                      ("enough", 1, ((),), (EVEN,)), ("suspect", NET, PAIR, 0, 0), ("suspect", NET, (None,), 0, 0),
                      ("suspect", (4, 0), (PAIR,), 0, 0), ("suspect", NET, (PAIR,), 0, -1)):
            self.assertIs(is_claim(claim), False, claim)

    def test_passings(self):
        row = (("person", 0), ("house", 0), 1, 2, None)
        letter = (2, (0, 1), 1, 9)
        for place, part, known in ((0, ("house", 3), True), (0, ("town", 3), False), (0, ("person", -1), False), (0, None, False),
                                   (0, ("person", 0, 0), False), (1, ("person", 7), True), (1, ("person", None), False),
                                   (2, 0, False), (2, None, False), (2, True, False), (2, 99, True), (3, None, True),
                                   (3, 0, False), (3, 1, True), (3, False, False), (4, ("opened", 0), True),
                                   (4, ("opened", -1), False), (4, ("opened", None), False), (4, ("opened",), False),
                                   (4, ("opened", 0, 0), False), (4, ("own", letter, 0), True), (4, ("own", letter, 2), True),
                                   (4, ("own", letter, 3), False), (4, ("own", letter, -1), False), (4, ("own", letter), False),
                                   (4, ("own", letter[:3], 0), False), (4, ("other", letter, 0), False), (4, (), False),
                                   (4, ("own", (2, (), 1, 9), 0), False), (4, ("own", (2, (1, 0), 1, 9), 0), False), (4, 0, False)):
            sight = (row[:place] + (part,) + row[place + 1:],)
            self.assertIs(is_claim(("may", sight, 0, 0)), known, (place, part))
            self.assertIs(is_claim(("suspect", NET, (PAIR, sight), 0, 0)), known)
        for sight in ((row[:4],), (row + (0,),), (list(row),), [row], None, row):
            self.assertIs(is_claim(("may", sight, 0, 0)), False)

    def test_shapes_need_not_fit(self):
        # As far as shapes go: what is asked of them is told by errors.
        for claim, _ in [(claim[0], error) for claim, error in WRONG if error in ("NoToken", "Unfit") and claim[0]]:
            if claim[1] != () and -1 not in claim:
                self.assertIs(is_claim(claim), True, claim)


class TestWrongPapers(TestCase):

    def test_one_thing_changed(self):
        for claim in CLAIMS:
            right = paper(claim)
            known = is_so(claim)
            things = broken(right) if isinstance(right, tuple) else [None, True, False, "", (), (right,), str(right), -9, 99]
            for thing in things:
                self.assertIn(shows(claim, thing), (None, known))
                self.assertIs(is_paper(claim, thing), self.is_one(claim, known, thing), (claim[0], thing))
            self.assertIs(is_paper(claim, listed(right)), not isinstance(right, tuple) or right == ())  if right != () else None

    def is_one(self, claim, known, thing):
        """What the table says, by the judges of each point."""
        word, parts = claim[0], claim[1:]
        if word == "may":
            sight, token, person = parts
            if known:
                return is_chain(sight, thing) and (thing[-1], sight[thing[0]][0]) == (token, ("person", person))
            return is_cut(sight, token, person, thing)
        if word == "goal":
            judged = is_goal_threading if known else is_goal_cut
            return judged(*parts[1:], thing)
        if word == "pairs":
            if not known:
                return is_pairs_bar(*parts, thing)
            return is_threading(parts[0], thing) and all(
                token not in thing if later is None else thing[later] == token for token, later in parts[1])
        if word == "share":
            return is_share_paper(parts[0], parts[1], thing)
        if word == "alike":
            world, plan, other = parts
            rows = [true_threading(played_out(own, plan)) for own in (world, other) if is_plan(own, plan)]
            if known:
                return is_swap_row(sight_of(played_out(world, plan)), *rows, thing)
            return type(thing) is int and thing in (1, 2)
        if word == "weak":
            return is_finding(*parts, thing) if known else type(thing) is int and thing == sum(parts[0][:2]) - parts[2]
        if word == "enough":
            return repr(thing) == ("(2,)" if known else "0")
        return (is_round_paper if known else is_clearing)(*parts, thing)


class TestRuns(TestCase):

    def check(self, claim, known):
        self.assertIs(is_claim(claim), True)
        self.assertIs(is_so(claim), known)
        told = paper(claim)
        self.assertIs(shows(claim, told), known)
        self.assertIs(is_paper(claim, told), True)
        self.assertIsNone(shows(claim, (told,)))
        self.assertIsNone(shows(claim, [told]))

    def test_sights(self):
        for net, _, sight in some_sights(10):
            if how_many(sight) > 60:
                continue
            rows = plain.threadings(sight)
            chance = Random(len(sight))
            for token in range(0, len(sight), 3):
                people = [plain.sender(sight, row, token) for row in rows]
                for person in range(net[0]):
                    self.check(("may", sight, token, person), person in people)
                    part = Fraction(people.count(person), len(people))
                    for other in (Fraction(0), Fraction(1, 3), Fraction(1, 2), Fraction(1)):
                        claim = ("share", sight, token, person, (other.numerator, other.denominator))
                        self.check(claim, part >= other)
            for person in range(net[0]):
                start = [token for token, row in enumerate(sight) if row[0] == ("person", person) and not plain.known(row)]
                for goal in range(net[0] if start else 0):
                    ends = [self.end(sight, row, start[0]) for row in rows]
                    known = any(spot[0] == "house" or spot[1] == goal for spot in ends)
                    self.check(("goal", net, sight, person, goal), known)
                    self.check(("suspect", net, (sight, (), sight), person, goal), known)
            hidden = [own for own, row in enumerate(sight) if not plain.known(row)]
            for _ in range(6 if hidden else 0):
                pairs = tuple((chance.choice(hidden), chance.choice(hidden + [None] * 3)) for _ in range(chance.randrange(3)))
                known = any(all(token not in row if later is None else row[later] == token for token, later in pairs)
                            for row in rows)
                self.check(("pairs", sight, pairs), known)

    def end(self, sight, row, token):
        while token in row:
            token = row.index(token)
        return sight[token][1]

    def test_alike(self):
        asked = {True: 0, False: 0}
        for number in range(26):
            start, plan, along = some_scene(number)
            if how_many(sight_of(along[-1])) > 30:
                continue
            view = view_of(along[-1])
            others = all_alike(start, plan)[:3] + [start[:5] + (tuple(((), (), (luck,)) for _ in start[5]),) + start[6:]
                                               for luck in range(3)]
            others.append(start[:3] + (tuple(None for _ in start[3]),) + start[4:])
            for other in others:
                known = is_plan(other, plan) and view_of(played_out(other, plan)) == view
                self.assertIs(is_alike(start, plan, other), known)
                asked[known] += 1
                self.check(("alike", start, plan, other), known)
                numbers = [shows(("alike", start, plan, other), own) for own in range(len(plan) + 1)]
                parted = [not is_plan(other, plan[:own]) or view_of(played_out(other, plan[:own])) != view_of(along[own])
                          for own in range(len(plan) + 1)]
                self.assertEqual([own is False for own in numbers], parted)
        self.assertGreater(min(asked.values()), 12)

    def test_weak_and_enough(self):
        for rule in ((1, 0, None, True, True), (2, 1, None, True, True), (2, 1, 3, True, True), (3, 0, None, False, False),
                     (3, 0, None, True, False), (3, 1, None, False, True)):
            for want in (2, 3, 4):
                for bad in (0, 1, 2):
                    wait, doubles, marks = rule[2:]
                    known = rule[0] + rule[1] < want + bad or wait is not None or (not marks and (not doubles or bad > 0))
                    self.check(("weak", rule, want, bad), known)
                    careful = rule[2:] == (None, True, True)
                    fit = careful and max(1, rule[0] + rule[1] - bad) >= want
                    self.check(("enough", want, (tuple(range(bad)), ()), (rule, rule)), fit)
                    self.check(("enough", want, (tuple(range(bad)), (0,)), (rule, EVEN)), max(1, 2 - bad) >= want)

    def test_examples_of_the_tables(self):
        self.assertIs(shows(CLAIMS[6], HALVES), True)
        self.assertIs(shows(CLAIMS[7], HALVES), False)
        self.assertIs(shows(CLAIMS[8], ((0, 1),)), True)
        self.assertIs(is_so(("alike", NIGHT, TALK, DAWN)), True)
        self.assertIs(is_so(("alike", NIGHT, TALK, LATER)), False)
        self.assertIs(shows(("pairs", KEPT, STUCK), ("over", 0, 2, (0, 1))), False)
        self.assertIs(shows(("suspect", NET, (PAIR, MORE), 0, 2), (1, (0, 2, 3))), False)
        self.assertIs(shows(("goal", MIXED_REST[0], MIXED, 0, 1), (1, 3, 5, 6)), False)
        self.assertEqual({claim[0] for claim in CLAIMS}, set(WORDS))
