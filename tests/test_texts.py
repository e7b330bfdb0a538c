"""Texts there and back; the first word or line that cannot stand there, beside a plain way to tell; news and grown."""

from random import Random
from unittest import TestCase

from sendershade.errors import BadLine, BadText, Unfit
from sendershade.texts import (choice_text, grown, letter_text, news, plan_text, read_choice, read_letter, read_plan,
                               read_view, read_wishes, read_world, view_text, wishes_text, world_text)
from sendershade.views import view_of, view_till, views_along
from tests.calls_finds import HALL
from tests.calls_shell import CHOICE_TEXT, TOWN_TEXT, VIEW, VIEW_TEXT, WISHES_TEXT
from tests.model import some_letter, some_run
from tests.values import listed

READERS = ((read_world, world_text), (read_wishes, wishes_text), (read_choice, choice_text), (read_plan, plan_text),
           (read_view, view_text))


def place_of(call, text):
    """The number of the line, or the place of the word, that cannot stand there; None if the text is read."""
    try:
        call(text)
    except BadLine as error:
        return error.number
    except BadText as error:
        return error.place
    return None


def some_texts(number):
    """For each reader a text of one of the things of a run."""
    given, plan, along = some_run(number)
    return ((read_world, world_text(along[0])), (read_wishes, wishes_text(given[3])), (read_choice, choice_text(plan[-1])),
            (read_plan, plan_text(plan)), (read_view, view_text(view_of(along[-1]))))


class TestLetters(TestCase):

    def test_there_and_back(self):
        for letter, text in (((0, (0, 1), 2, 7), "0 0,1 2 7"), ((1, (0,), 0, 9), "1 0 0 9"),
                             ((12, (3, 10, 200), 12, 10 ** 6), "12 3,10,200 12 1000000")):
            self.assertEqual((letter_text(letter), read_letter(text)), (text, letter))
        for number in range(50):
            letter = some_letter(Random(number), (7, 5), 3)
            self.assertEqual(read_letter(letter_text(letter)), letter)
            self.assertEqual(letter_text(listed(letter)), letter_text(letter))

    def test_first_wrong_word(self):
        for text, place in (("", 0), ("0", 1), ("0 0,1", 2), ("0 0,1 2", 3), ("0 0,1 2 7 ", 4), ("0 0,1 2 7 7", 4),
                            ("0 0,1 2 7 x y", 4), (" 0 0,1 2 7", 0), ("0  0,1 2 7", 1), ("0 0,1  2 7", 2), ("0 0,1 2  7", 3),
                            ("00 0,1 2 7", 0), ("0 00,1 2 7", 1), ("0 0,01 2 7", 1), ("0 1,0 2 7", 1), ("0 1,1 2 7", 1),
                            ("0 0,1, 2 7", 1), ("0 ,0 2 7", 1), ("0 , 2 7", 1), ("0 0, 1 2 7", 1), ("0 0;1 2 7", 1),
                            ("0 - 2 7", 1), ("0 0 -2 7", 2), ("0 0 2 +7", 3), ("0 0 2 7.", 3), ("0 0 2 07", 3), ("0,1 0 2 7", 0),
                            ("0 0 2,3 7", 2), ("a b c d", 0), ("0 0 2 seven", 3), ("0 0 2 7\n", 3), ("0 0 2\n7", 2), ("\n", 0),
                            (" ", 0), ("0 ", 1), ("0 0 2 ", 3), ("0 0 2 1_0", 3), ("0 0 2 0x1", 3)):
            with self.assertRaises(BadText) as caught:
                read_letter(text)
            self.assertEqual(caught.exception.place, place, text)


class TestThings(TestCase):

    def test_texts(self):
        town = read_world(TOWN_TEXT)
        self.assertEqual(town, ((3, 2), ((2,), (1,)), ((1, 0, None, True, True), (2, 3, 4, False, True)),
                                ((1, (0, (0, 1), 2, 7)), None, None), 0, (((), (), (1,)), ((), (), ())), (), ()))
        self.assertEqual(read_wishes(WISHES_TEXT), ((1, (0, (0, 1), 2, 7)), None, (12, (2, (1,), 0, 0))))
        self.assertEqual(read_choice(CHOICE_TEXT), (((2, (0,), 1, 5), (2, (0, 1), 0, 0)), (0, 1, 0)))
        self.assertEqual(read_plan("choice\n" + CHOICE_TEXT + "\nchoice"), (((), ()), read_choice(CHOICE_TEXT), ((), ())))
        self.assertEqual((read_view(VIEW_TEXT), view_text(VIEW)), (VIEW, VIEW_TEXT))
        self.assertEqual([world_text(town), wishes_text(read_wishes(WISHES_TEXT)), choice_text(read_choice(CHOICE_TEXT))],
                         [TOWN_TEXT, WISHES_TEXT, CHOICE_TEXT])

    def test_empty_ones(self):
        self.assertEqual([wishes_text(()), choice_text(((), ())), plan_text(()), view_text(((), ()))],
                         ["wishes", "choice", "", "view"])
        self.assertEqual([read_wishes("wishes"), read_choice("choice"), read_plan(""), read_view("view")],
                         [(), ((), ()), (), ((), ())])
        for read in (read_world, read_wishes, read_choice, read_view):
            self.assertEqual(place_of(read, ""), 1)

    def test_just_this_form(self):
        # Of CHOICES, PLANS, VIEWS nothing else is asked: any numbers, in any order.
        self.assertEqual(read_choice("choice\n letter 99 5,60 7 0\n comes 7,7,0"), (((99, (5, 60), 7, 0),), (7, 7, 0)))
        rows = ((("house", 9), ("person", 8), 0, ("opened", 77), None), (("person", 1), ("person", 1), 5, None, 6),
                (("house", 0), ("house", 0), 3, ("own", (1, (0,), 4, 4), 9), 0))
        text = "view\n h9 p8 0 opened 77\n p1 p1 5 word 6\n h0 h0 3 own 1 0 4 4 9 word 0\n again 0 99\n again 7 0"
        self.assertEqual(read_view(text), (rows, ((0, 99), (7, 0))))
        self.assertEqual(view_text((rows, ((0, 99), (7, 0)))), text)
        # In WISHES no NET is at hand.
        self.assertEqual(read_wishes("wishes\n wish 1 0 9 9 0"), ((1, (0, (9,), 9, 0)),))

    def test_runs(self):
        for number in range(120):
            given, plan, along = some_run(number)
            view = view_of(along[-1])
            for (read, write), thing in zip(READERS, (along[0], given[3], plan[-1], plan, view)):
                text = write(thing)
                self.assertEqual(repr(read(text)), repr(thing))
                self.assertEqual(write(listed(thing)), text)
                lines = text.split("\n")
                self.assertTrue(all("%" not in line and line.isprintable() for line in lines))
            # Each beginning of the lines is a text of one, but of a WORLD's.
            for read, text in some_texts(number)[1:]:
                lines = text.split("\n") if text else []
                for many in range(1, len(lines) + 1):
                    self.assertIsNone(place_of(read, "\n".join(lines[:many])))


class TestWrongLines(TestCase):

    def check(self, read, cases):
        for text, number in cases:
            self.assertEqual(place_of(read, text), number, text)

    def test_worlds(self):
        head = "world 2 1\n"
        rest = " rule 1 0 - yes yes\n wish -\n wish -"
        self.check(read_world, (
            (head + rest, None), (" " + head + rest, 1), ("World 2 1", 1), ("world 2", 1), ("world 2 1 0", 1), ("world 0 1", 1),
            ("world 2 0", 1), ("world 02 1", 1), ("world  2 1", 1), ("world 2 1 ", 1), ("world", 1), ("wishes", 1), ("\n" + head, 1),
            ("world 2 1", 2), (head, 2), (head + " rule 1 0 - yes yes", 3), (head + rest[:-7], 4), (head + rest + "\n", 5),
            (head + rest + "\n wish -", 5), (head + " rule 1 0 - yes yes\n" + rest, 3), (head + " wish -\n" + rest, 2),
            (head + " persons 0,1\n houses 0\n" + rest, None), (head + " houses 0\n persons 0\n" + rest, 3),
            (head + " persons 0\n persons 1\n" + rest, 3), (head + " houses 0\n houses 0\n" + rest, 3),
            (head + " persons\n" + rest, 2), (head + " persons \n" + rest, 2), (head + " persons 2\n" + rest, 2),
            (head + " persons 1,0\n" + rest, 2), (head + " persons 0,0\n" + rest, 2), (head + " persons 0, 1\n" + rest, 2),
            (head + " houses 1\n" + rest, 2), (head + " houses 0 \n" + rest, 2), (head + "persons 0\n" + rest, 2),
            (head + "  persons 0\n" + rest, 2), (head + " people 0\n" + rest, 2),
            (head + " rule 1 0 - yes yes\n persons 0\n wish -\n wish -", 3), (head + rest + "\n persons 0", 5)))

    def test_rules(self):
        for words, known in (("1 0 - yes yes", True), ("1 0 - no no luck 0", True), ("8 8 20 yes no luck 5,5,0", True),
                             ("0 0 - yes yes", False), ("1 -1 - yes yes", False), ("1 0 0 yes yes", False), ("1 0 x yes yes", False),
                             ("1 0 -- yes yes", False), ("1 0 - Yes yes", False), ("1 0 - yes", False), ("1 0 - yes yes luck", False),
                             ("1 0 - yes yes luck ", False), ("1 0 - yes yes 5", False), ("1 0 - yes yes luck 5 5", False),
                             ("1 0 - yes yes luck 5,", False), ("1 0 - yes yes luck 05", False), ("1 0 - yes yes fate 5", False),
                             ("1 0 - yes yes ", False), ("01 0 - yes yes", False), ("1 0  - yes yes", False), ("1 0 yes yes", False),
                             ("1 0 None yes yes", False), ("1 0 - True yes", False), ("", False)):
            self.check(read_world, ((f"world 1 1\n rule {words}\n wish -", None if known else 2),))

    def test_wishes_in_worlds(self):
        head = "world 3 2\n persons 2\n rule 1 0 - yes yes\n rule 1 0 - yes yes\n wish -\n wish "
        for words, known in (("-", True), ("1 1 0,1 2 0", True), ("30 1 1 1 5", True), ("0 1 0 2 0", False), ("1 0 0 2 0", False),
                             ("1 2 0 2 0", False), ("1 1 2 2 0", False), ("1 1 0,2 2 0", False), ("1 1 0 3 0", False),
                             ("1 1 1,0 2 0", False), ("1 1 0 2", False), ("1 1 0 2 0 0", False), ("1", False), ("- -", False),
                             ("", False), ("01 1 0 2 0", False), ("- ", False), ("1 1 - 2 0", False)):
            self.check(read_world, ((head + words + "\n wish -", None if known else 6),))
        # PERSON 2 is the rest's.
        self.check(read_world, ((head + "-\n wish 1 2 0 0 0", 7), (head + "-\n wish -\n wish -", 8), (head + "-", 7)))

    def test_wishes(self):
        self.check(read_wishes, (
            ("wishes\n wish -\n wish 1 1 0 0 9", None), ("wishes\n wish 1 1 0 0 9", 2), ("wishes\n wish -\n wish 1 0 0 0 9", 3),
            ("wishes\n", 2), ("wishes ", 1), (" wishes", 1), ("wish -", 1), (" wish -", 1), ("wishes\nwish -", 2),
            ("wishes\n  wish -", 2), ("wishes\n wish  -", 2), ("wishes\n wish", 2), ("wishes\n wish - -", 2),
            ("wishes\n wish 0 0 0 0 9", 2), ("wishes\n wish 1 0 0 0 9\n wish -\n", 4), ("wishes\nwishes", 2),
            ("wishes\n wish -\n\n wish -", 3), ("\nwishes", 1), ("wishes\n wish 1 0 1,0 0 9\n nonsense", 2)))

    def test_choices_and_plans(self):
        cases = (("choice\n comes 0\n letter 0 0 0 1", 3), ("choice\n comes 0\n comes 0", 3), ("choice\n comes", 2),
                 ("choice\n comes ", 2), ("choice\n comes 0,", 2), ("choice\n comes 0 1", 2), ("choice\n letter", 2),
                 ("choice\n letter 0 0 0", 2), ("choice\n letter 0 0 0 1 1", 2), ("choice\n letter 0 1,0 0 1", 2),
                 ("choice\n", 2), ("choice \n", 1), (" choice", 1), ("choice\n choice", 2), ("choice\ncomes 0", 2),
                 ("choice\n  comes 0", 2), ("choice\n Letter 0 0 0 1", 2), (" comes 0", 1), ("comes 0", 1), ("\nchoice", 1),
                 ("choice\n letter 0 0 0 1\n\n comes 0", 3))
        self.check(read_choice, cases + (("choice\nchoice", 2), ("choice\n comes 0\nchoice\n wrong", 3),
                                   ("choice\n wrong\nchoice", 2), (CHOICE_TEXT + "\nchoice", 5)))
        self.check(read_plan, cases + (("choice\nchoice", None), ("choice\n comes 0\nchoice\n wrong", 4),
                                 ("choice\n comes 0\nchoice\n letter 0 0 0 1\n comes 1", None), ("choice\nchoice\n", 3)))

    def test_views(self):
        lines = ((" p0 h0 1", True), (" h12 p345 0", True), (" p0 h0 1 word 7", True), (" p0 h0 1 opened 0", True),
                 (" p0 h0 1 opened 0 word 7", True), (" p0 h0 1 own 0 0 0 0 0", True), (" p0 h0 1 own 0 0,1 0 0 2 word 0", True),
                 (" again 0 0", True), ("p0 h0 1", False), ("  p0 h0 1", False), (" p0 h0", False), (" p0 h0 1 ", False),
                 (" p0  h0 1", False), (" q0 h0 1", False), (" p h0 1", False), (" p00 h0 1", False), (" P0 h0 1", False),
                 (" p0 h0 01", False), (" p0 h0 -", False), (" p0 h0 1 word", False), (" p0 h0 1 word x", False),
                 (" p0 h0 1 word 7 7", False), (" p0 h0 1 word 7 opened 0", False), (" p0 h0 1 opened", False),
                 (" p0 h0 1 opened x", False), (" p0 h0 1 opened 0 0", False), (" p0 h0 1 own 0 0 0 0", False),
                 (" p0 h0 1 own 0 1,0 0 0 0", False), (" p0 h0 1 own 0 0 0 0 x", False), (" p0 h0 1 own", False),
                 (" p0 h0 1 own 0 0 0 0 0 0", False), (" p0 h0 1 own 0 0 0 0 0 opened 0", False), (" p0 h0 1 7", False),
                 (" p0 h0 1 none", False), (" again 0", False), (" again 0 0 0", False), (" again", False), (" again 0 x", False),
                 (" again 0 00", False), (" Again 0 0", False), ("again 0 0", False), ("", False), (" ", False), ("view", False),
                 (" p0 h0 1 opened 0 opened 0", False), (" word 7", False), (" 0 h0 1", False), (" p0 0 1", False))
        for line, known in lines:
            self.check(read_view, (("view\n" + line, None if known else 2), ("view\n p0 h0 1\n" + line, None if known else 3)))
            self.assertEqual(place_of(lambda text: grown(VIEW, text), line), None if known or line == "" else 1, line)
        self.check(read_view, (("view\n again 1 0\n p0 h0 1", 3), ("view\n p0 h0 1\n again 1 0\n again 1 0\n h0 p0 1\n wrong", 5),
                         ("View", 1), ("view ", 1), (" view", 1), ("view\n", 2), (" p0 h0 1", 1), ("\nview", 1)))

    def test_one_thing_changed(self):
        """Beside a plain way: the first of these lines with which no text begins."""
        for number in range(14):
            for read, text in some_texts(number):
                lines = text.split("\n") if text else []
                for other in self.changed_lines(Random(number), lines):
                    self.assertEqual(place_of(read, "\n".join(other)), self.first_wrong(read, other), other)

    def changed_lines(self, chance, lines):
        told = []
        for place, line in enumerate(lines[:7]):
            told += [lines[:place] + lines[place + 1:], lines[:place] + [line] + lines[place:],
                     lines[:place] + [""] + lines[place:], lines[:place + 1]]
            words = line.split(" ")
            spot = chance.randrange(len(words))
            for part in (words[:spot] + words[spot + 1:], words[:spot] + words[spot:spot + 1] + words[spot:],
                         words[:spot] + ["0" + words[spot]] + words[spot + 1:], words[:spot] + ["-"] + words[spot + 1:],
                         words[:spot] + ["9"] + words[spot + 1:], words + [""], [""] + words):
                told.append(lines[:place] + [" ".join(part)] + lines[place + 1:])
            spot = chance.randrange(len(line))
            for sign in ("", line[spot] * 2, chance.choice(" 0,-pw")):
                told.append(lines[:place] + [line[:spot] + sign + line[spot + 1:]] + lines[place + 1:])
        return [other for other in told if other != [""]]

    def first_wrong(self, read, lines):
        for many in range(1, len(lines) + 1):
            begun = lines[:many]
            texts = ["\n".join(begun + end) for end in self.ends(read, begun)]
            # An empty line alone is no text, but "" is one of no line.
            if begun == [""] or all(place_of(read, text) is not None for text in texts):
                return many
        return None if place_of(read, "\n".join(lines)) is None else len(lines) + 1

    def ends(self, read, lines):
        """Rows of lines, of which one makes a whole text of these lines, if any does."""
        words = lines[0].split(" ")
        if read is not read_world or len(words) != 3 or not words[1].isdecimal() or not words[2].isdecimal():
            return [[]]
        rules, wishes = [[line for line in lines if line.startswith(word)] for word in (" rule", " wish")]
        return [[" rule 1 0 - yes yes"] * (int(words[2]) - len(rules)) + [" wish -"] * (int(words[1]) - len(wishes))]

    def test_lines_that_are_wanting(self):
        for number in range(30):
            text = some_texts(number)[0][1]
            lines = text.split("\n")
            for many in range(len(lines)):
                self.assertEqual(place_of(read_world, "\n".join(lines[:many])), many + 1)
        # However many are wanting.
        self.assertEqual(place_of(read_world, "world 99999999 99999999\n persons 99999998"), 3)

    def test_takes_no_other_text(self):
        # What is read is written as it was, whatever the text is.
        chance = Random(3)
        for number in range(20):
            for (read, write), (_, text) in zip(READERS, some_texts(number)):
                for _ in range(30):
                    place = chance.randrange(len(text) + 1)
                    other = text[:place] + chance.choice(" 0,1-p\nhx") + text[place + chance.randrange(2):]
                    if place_of(read, other) is None:
                        self.assertEqual(write(read(other)), other)


class TestNews(TestCase):

    def test_told(self):
        near = (VIEW[0][:2], ())
        self.assertEqual(news(near, VIEW), " h0 p2 2 own 2 0 2 9 1 word 9\n h0 h1 3\n h1 p2 3 opened 3 word 5\n again 3 1")
        self.assertEqual((news(VIEW, VIEW), grown(VIEW, "")), ("", VIEW))
        self.assertEqual(grown(near, news(near, VIEW)), VIEW)
        # Rows may stand behind pairs that were there, not behind those of the lines.
        self.assertEqual(grown((VIEW[0][:1], ((1, 0),)), " p1 h0 1\n again 2 0"),
                         ((VIEW[0][0], (("person", 1), ("house", 0), 1, None, None)), ((1, 0), (2, 0))))
        self.assertEqual(place_of(lambda text: grown(VIEW, text), " again 2 0\n p1 h0 1"), 2)
        self.assertEqual([place_of(lambda text: grown(near, text), text) for text in ("view", "\n", " p0 h0 1\n", " p0 h0 1\n x")],
                         [1, 1, 2, 2])

    def test_unfit(self):
        rows, again = VIEW
        for near in ((rows[1:], again), (rows, again * 2), (rows + rows[:1], again), (rows[:2], ((9, 1),)),
                     (rows[1:2], ()), ((), ((3, 2),))):
            self.assertRaises(Unfit, news, near, VIEW)
        self.assertRaises(Unfit, news, VIEW, (rows, ()))
        self.assertRaises(Unfit, news, VIEW, ((), again))

    def test_runs(self):
        for number in range(60):
            _, plan, along = some_run(number)
            views = views_along(along[0], plan)
            far = views[-1]
            for moment, near in enumerate(views):
                self.assertEqual(near, view_till(far, moment))
                text = news(near, far)
                self.assertEqual(grown(near, text), far)
                self.assertEqual(grown(listed(near), text), far)
                told, ahead = view_text(far).split("\n"), view_text(near).split("\n")
                rows = [line for line in told[1:] if not line.startswith(" again")][len(near[0]):]
                pairs = [line for line in told[1:] if line.startswith(" again")][len(near[1]):]
                self.assertEqual(text, "\n".join(rows + pairs))
                self.assertTrue(set(ahead) <= set(told))
                if far != near:
                    self.assertRaises(Unfit, news, far, near)

    def test_hall(self):
        self.assertEqual(world_text(HALL), "world 3 1\n persons 2\n rule 2 0 - yes yes\n wish 1 0 0 2 5\n wish 1 1 0 2 6\n wish -")
