"""Texts: WORLDS, WISHES, CHOICES, PLANS and VIEWS as lines of words, and back."""

from sendershade.covers import is_letter
from sendershade.errors import BadLine, BadText, Unfit
from sendershade.forms import frozen, is_set_below
from sendershade.lines import (letter_in, letter_words, lines_of, number_in, numbers_in, numbers_word, part_in, spot_in,
                               spot_word)
from sendershade.nets import is_net


def letter_text(letter):
    """letter as four words."""
    return " ".join(letter_words(letter))


def _wish_line(wish):
    """The line of a WISH."""
    if wish is None:
        return " wish -"
    return " ".join(["", "wish", str(wish[0])] + letter_words(wish[1]))


def _flag_word(flag):
    return "yes" if flag else "no"


def _rule_line(rule, luck):
    """The line of a HOUSE."""
    batch, keep, wait, doubles, marks = rule
    words = ["", "rule", str(batch), str(keep), "-" if wait is None else str(wait)]
    words.extend([_flag_word(doubles), _flag_word(marks)])
    if len(luck) > 0:
        words.extend(["luck", numbers_word(luck)])
    return " ".join(words)


def world_text(world):
    """A WORLD at its beginning, as lines."""
    net, rest, rules, wishes, _, bins = world[:6]
    lines = [f"world {net[0]} {net[1]}"]
    for word, numbers in zip(("persons", "houses"), rest):
        if len(numbers) > 0:
            lines.append(f" {word} {numbers_word(numbers)}")
    lines.extend([_rule_line(rule, box[2]) for rule, box in zip(rules, bins)])
    lines.extend([_wish_line(wish) for wish in wishes])
    return "\n".join(lines)


def wishes_text(wishes):
    """WISHES as lines."""
    return "\n".join(["wishes"] + [_wish_line(wish) for wish in wishes])


def choice_text(choice):
    """A CHOICE as lines."""
    letters, comes = choice
    lines = ["choice"] + [f" letter {letter_text(letter)}" for letter in letters]
    if len(comes) > 0:
        lines.append(f" comes {numbers_word(comes)}")
    return "\n".join(lines)


def plan_text(plan):
    """A PLAN as the lines of its CHOICES."""
    return "\n".join([choice_text(choice) for choice in plan])


def _row_line(row):
    """The line of a row of a VIEW."""
    spot, goal, sent, tag, word = row
    words = ["", spot_word(spot), spot_word(goal), str(sent)]
    if tag is not None and tag[0] == "opened":
        words.extend(["opened", str(tag[1])])
    elif tag is not None:
        words.extend(["own"] + letter_words(tag[1]) + [str(tag[2])])
    if word is not None:
        words.extend(["word", str(word)])
    return " ".join(words)


def _view_lines(rows, again):
    return [_row_line(row) for row in rows] + [f" again {moment} {token}" for moment, token in again]


def view_text(view):
    """A VIEW as lines."""
    rows, again = view
    return "\n".join(["view"] + _view_lines(rows, again))


def read_letter(text):
    """The LETTER with this text."""
    words, told = text.split(" ") if text != "" else [], []
    for place, word in enumerate(words):
        part = part_in(place, word)
        if part is None:
            raise BadText(place)
        told.append(part)
    if len(told) < 4:
        raise BadText(len(words))
    return tuple(told)


def _wish_in(line, person):
    """The WISH of person with this line, in a tuple, as it may be None; () if there is none."""
    words = line.split(" ")
    if words == ["", "wish", "-"]:
        return (None,)
    if words[:2] != ["", "wish"] or len(words) != 7:
        return ()
    moment, letter = number_in(words[2]), letter_in(words[3:])
    if moment is None or moment == 0 or letter is None or letter[0] != person:
        return ()
    return ((moment, letter),)


def _flag_in(word):
    """True or False; None if word is none of both."""
    if word == "yes":
        return True
    return False if word == "no" else None


def _rule_in(line):
    """The pair of RULE and LUCK with this line; None if there is none."""
    words = line.split(" ")
    if words[:2] != ["", "rule"] or (len(words) != 7 and (len(words) != 9 or words[7] != "luck")):
        return None
    batch, keep, wait = [number_in(word) for word in words[2:5]]
    doubles, marks = _flag_in(words[5]), _flag_in(words[6])
    luck = numbers_in(words[8]) if len(words) == 9 else ()
    if None in (batch, keep, doubles, marks, luck) or batch == 0:
        return None
    if words[4] != "-" and (wait is None or wait == 0):
        return None
    return ((batch, keep, wait, doubles, marks), luck)


class Reader:
    """A WORLD at its beginning while its lines are read."""

    def __init__(self):
        self.net = None
        self.rest = ((), ())
        self.rules = []
        self.wishes = []

    def takes(self, line):
        """Whether line may stand behind those that were taken; it is taken then."""
        if self.net is None:
            return self._takes_net(line.split(" "))
        if len(self.rules) == self.net[1]:
            return self._takes_wish(line)
        rule = _rule_in(line)
        if rule is None:
            return self.rules == [] and self._takes_rest(line.split(" "))
        self.rules.append(rule)
        return True

    def _takes_net(self, words):
        net = tuple([number_in(word) for word in words[1:]])
        if words[0] != "world" or not is_net(net):
            return False
        self.net = net
        return True

    def _takes_rest(self, words):
        if len(words) != 3 or words[0] != "":
            return False
        people, houses = self.rest
        numbers = numbers_in(words[2])
        if words[1] == "persons" and self.rest == ((), ()) and is_set_below(numbers, self.net[0]):
            self.rest = (numbers, houses)
            return True
        if words[1] == "houses" and houses == () and is_set_below(numbers, self.net[1]):
            self.rest = (people, numbers)
            return True
        return False

    def _takes_wish(self, line):
        person = len(self.wishes)
        if person == self.net[0]:
            return False
        wish = _wish_in(line, person)
        if wish == ():
            return False
        if wish != (None,) and (person in self.rest[0] or not is_letter(self.net, wish[0][1])):
            return False
        self.wishes.append(wish[0])
        return True

    def is_whole(self):
        """Whether no line is wanting."""
        return self.net is not None and (len(self.wishes), len(self.rules)) == self.net

    def world(self):
        """The WORLD with these lines."""
        bins = tuple([((), (), luck) for _, luck in self.rules])
        rules = tuple([rule for rule, _ in self.rules])
        return (self.net, self.rest, rules, tuple(self.wishes), 0, bins, (), ())


def read_world(text):
    """The WORLD at its beginning with this text."""
    reader, lines = Reader(), lines_of(text)
    for place, line in enumerate(lines):
        if not reader.takes(line):
            raise BadLine(place + 1)
    if not reader.is_whole():
        raise BadLine(len(lines) + 1)
    return reader.world()


def _check_first(lines, word):
    """Raise BadLine(1) unless the first line is word."""
    if lines[:1] != [word]:
        raise BadLine(1)


def read_wishes(text):
    """The WISHES with this text."""
    lines, told = lines_of(text), []
    _check_first(lines, "wishes")
    for person, line in enumerate(lines[1:]):
        wish = _wish_in(line, person)
        if wish == ():
            raise BadLine(person + 2)
        told.append(wish[0])
    return tuple(told)


def _part_of_choice(line):
    """The pair of a LETTER, or None, and of comes, or (), that a line of a CHOICE tells; None if there is none."""
    words = line.split(" ")
    letter = letter_in(words[2:])
    if words[:2] == ["", "letter"] and letter is not None:
        return (letter, ())
    if words[:2] == ["", "comes"] and len(words) == 3 and numbers_in(words[2]) is not None:
        return (None, numbers_in(words[2]))
    return None


def _choices_in(lines):
    """The list of the CHOICES that lines tell; BadLine(number) for the first line that cannot stand there."""
    told = []
    for place, line in enumerate(lines):
        part = _part_of_choice(line)
        if line == "choice":
            told.append(((), ()))
        elif part is None or told == [] or told[-1][1] != ():
            # Nothing stands behind comes but the next CHOICE.
            raise BadLine(place + 1)
        elif part[0] is None:
            told[-1] = (told[-1][0], part[1])
        else:
            told[-1] = (told[-1][0] + (part[0],), ())
    return told


def read_choice(text):
    """The CHOICE with this text."""
    lines = lines_of(text)
    _check_first(lines, "choice")
    again = [place for place, line in enumerate(lines) if line == "choice"][1:2]
    # A wrong line ahead of a second CHOICE is told first.
    told = _choices_in(lines[:again[0]] if again else lines)
    if again:
        raise BadLine(again[0] + 1)
    return told[0]


def read_plan(text):
    """The PLAN with this text."""
    return tuple(_choices_in(lines_of(text)))


def _tag_in(words):
    """The pair of the tag with which words begin, None without, and of the words behind it."""
    if words[:1] == ["opened"] and len(words) > 1:
        return (("opened", number_in(words[1])), words[2:])
    if words[:1] == ["own"] and len(words) > 5:
        return (("own", letter_in(words[1:5]), number_in(words[5])), words[6:])
    return (None, words)


def _row_in(line):
    """The row of a VIEW with this line; None if there is none."""
    words = line.split(" ")
    if len(words) < 4 or words[0] != "":
        return None
    spot, goal, sent = spot_in(words[1]), spot_in(words[2]), number_in(words[3])
    tag, left = _tag_in(words[4:])
    word = number_in(left[1]) if len(left) == 2 and left[0] == "word" else None
    if None in (spot, goal, sent) or (left != [] and word is None) or (tag is not None and None in tag):
        return None
    return (spot, goal, sent, tag, word)


def _pair_in(line):
    """The pair of again with this line; None if there is none."""
    words = line.split(" ")
    if words[:2] != ["", "again"] or len(words) != 4:
        return None
    pair = (number_in(words[2]), number_in(words[3]))
    return None if None in pair else pair


def _grown(view, lines, first):
    """view with the rows and pairs of lines behind its own, the number of the first line being first."""
    rows, again = [], []
    for place, line in enumerate(lines):
        row, pair = _row_in(line), _pair_in(line)
        if pair is not None:
            again.append(pair)
        elif row is not None and again == []:
            rows.append(row)
        else:
            raise BadLine(place + first)
    return (view[0] + tuple(rows), view[1] + tuple(again))


def read_view(text):
    """The VIEW with this text."""
    lines = lines_of(text)
    _check_first(lines, "view")
    return _grown(((), ()), lines[1:], 2)


def news(near, far):
    """The lines of the text of far that tell what near has not."""
    near, far = frozen(near), frozen(far)
    parts = []
    for less, more in zip(near, far):
        if more[:len(less)] != less:
            raise Unfit()
        parts.append(more[len(less):])
    return "\n".join(_view_lines(parts[0], parts[1]))


def grown(view, text):
    """view with the rows and pairs of the lines of text behind its own."""
    return _grown(frozen(view), lines_of(text), 1)
