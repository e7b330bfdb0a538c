"""Words of a line, and what they tell: numbers, LETTERS, SPOTS. Private: for texts.py and shell.py."""

from sendershade.forms import as_set


def lines_of(text):
    """The list of the lines of text."""
    return text.split("\n") if text != "" else []


def number_in(word):
    """The number that a word tells, without a needless 0; None if it tells none."""
    if not word.isascii() or not word.isdecimal() or (word[0] == "0" and word != "0"):
        return None
    return int(word)


def numbers_in(word):
    """The tuple of the numbers that a word tells, with commas between; None if it tells none."""
    told = [number_in(part) for part in word.split(",")]
    return None if None in told else tuple(told)


def numbers_word(numbers):
    """The word that tells numbers, of which there is one at least."""
    return ",".join([str(number) for number in numbers])


def part_in(place, word):
    """What a word tells as the one at place of a LETTER; None if it cannot stand there."""
    if place != 1:
        return number_in(word) if place < 4 else None
    route = numbers_in(word)
    return route if route is not None and as_set(route) == route else None


def letter_words(letter):
    """The list of the words of a LETTER."""
    sender, route, goal, word = letter
    return [str(sender), numbers_word(route), str(goal), str(word)]


def letter_in(words):
    """The LETTER that a list of words tells; None if it tells none."""
    told = [part_in(place, word) for place, word in enumerate(words)]
    return None if len(told) != 4 or None in told else tuple(told)


def spot_word(spot):
    """The word of a SPOT."""
    word, place = spot
    return f"{word[0]}{place}"


def spot_in(word):
    """The SPOT that a word tells; None if it tells none."""
    place = number_in(word[1:])
    if place is None or (word[0] != "p" and word[0] != "h"):
        return None
    return ("person" if word[0] == "p" else "house", place)
