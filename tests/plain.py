"""Plain ways of telling what the package tells: the words of the document one by one, however long it takes."""

from fractions import Fraction


def number(thing):
    return type(thing) is int


def tuple_of(thing, many):
    return type(thing) is tuple and len(thing) == many


def spot_form(net, thing):
    if not tuple_of(thing, 2) or type(thing[0]) is not str or not number(thing[1]):
        return False
    return 0 <= thing[1] < {"person": net[0], "house": net[1]}.get(thing[0], 0)


def letter_form(net, thing):
    if not tuple_of(thing, 4) or type(thing[1]) is not tuple or not all(number(own) for own in thing[1]):
        return False
    sender, route, goal, word = thing
    if not number(sender) or not number(goal) or not number(word):
        return False
    in_net = 0 <= sender < net[0] and 0 <= goal < net[0] and all(0 <= own < net[1] for own in route)
    return in_net and word >= 0 and route != () and list(route) == sorted(set(route))


def of_the_rest(rest, spot):
    return spot[1] in rest[0 if spot[0] == "person" else 1]


def cover_spots(letter, place):
    sender, route, goal, _ = letter
    way = [("person", sender)] + [("house", own) for own in route] + [("person", goal)]
    return way[place], way[place + 1]


def own_form(net, rest, spots, tag):
    """Whether tag is ("own", letter, j) for these SPOTS."""
    if not tuple_of(tag, 3) or tag[0] != "own" or not letter_form(net, tag[1]) or not number(tag[2]):
        return False
    if not 0 <= tag[2] <= len(tag[1][1]) or tag[1][0] not in rest[0]:
        return False
    return cover_spots(tag[1], tag[2]) == spots


def opened_form(tag, place):
    return tuple_of(tag, 2) and tag[0] == "opened" and number(tag[1]) and tag[1] == place


def own_tags_form(tags):
    """Whether "own" tags stand once, behind those with j less."""
    for place, tag in enumerate(tags):
        if tag is not None and tag[0] == "own":
            if tags.count(tag) != 1 or (tag[2] > 0 and ("own", tag[1], tag[2] - 1) not in tags[:place]):
                return False
    return True


def view_form(net, rest, thing):
    """The table of the form of a VIEW, row by row."""
    if not tuple_of(thing, 2) or type(thing[0]) is not tuple or type(thing[1]) is not tuple:
        return False
    rows, again = thing
    for row in rows:
        if not tuple_of(row, 5) or not spot_form(net, row[0]) or not spot_form(net, row[1]) or not number(row[2]):
            return False
        for_rest = row[1][0] == "person" and of_the_rest(rest, row[1])
        if row[2] < 1 or (not (number(row[4]) and row[4] >= 0) if for_rest else row[4] is not None):
            return False
    if any(rows[place - 1][2] > rows[place][2] for place in range(1, len(rows))):
        return False
    return view_tags_form(net, rest, rows) and again_form(rows, again)


def view_tags_form(net, rest, rows):
    for place, (spot, goal, sent, tag, _) in enumerate(rows):
        if tag is None:
            if of_the_rest(rest, spot):
                return False
        elif not own_form(net, rest, (spot, goal), tag):
            ahead = rows[place - 1] if place > 0 else None
            if ahead is None or not opened_form(tag, place - 1) or ahead[2] != sent or ahead[1] != spot:
                return False
            if spot[0] != "house" or not of_the_rest(rest, spot):
                return False
            if ahead[3] is not None and ahead[3][0] == "own":
                return False
    if not own_tags_form([row[3] for row in rows]):
        return False
    for place, (_, goal, sent, tag, _) in enumerate(rows):
        if goal[0] == "house" and of_the_rest(rest, goal):
            wanted = ("own", tag[1], tag[2] + 1) if tag is not None and tag[0] == "own" else ("opened", place)
            if place + 1 >= len(rows) or rows[place + 1][2:4] != (sent, wanted):
                return False
    return True


def again_form(rows, again):
    for pair in again:
        if not tuple_of(pair, 2) or not number(pair[0]) or not number(pair[1]) or not 0 <= pair[1] < len(rows):
            return False
        if rows[pair[1]][2] > pair[0]:
            return False
    return [pair[0] for pair in again] == sorted(pair[0] for pair in again)


def sight_form(net, rest, thing):
    """The table of the form of a SIGHT, row by row."""
    if type(thing) is not tuple:
        return False
    for row in thing:
        if not tuple_of(row, 5) or not spot_form(net, row[0]) or not spot_form(net, row[1]) or not number(row[2]):
            return False
        spot, goal, sent, came, _ = row
        if came is not None and not (goal[0] == "house" and not of_the_rest(rest, goal) and number(came)
                                     and came > sent):
            return False
        if sent < 1 or (spot[0] == "person" and goal[0] == "person"):
            return False
        if spot[0] == "house" and goal[0] == "house" and goal[1] <= spot[1]:
            return False
    if any(thing[place - 1][2] > thing[place][2] for place in range(1, len(thing))):
        return False
    return sight_tags_form(net, rest, thing) and sight_others_form(rest, thing)


def sight_tags_form(net, rest, sight):
    for place, (spot, goal, sent, _, tag) in enumerate(sight):
        known = own_form(net, rest, (spot, goal), tag)
        if spot[0] == "house" and of_the_rest(rest, spot):
            if place == 0 or sight[place - 1][1] != spot or sight[place - 1][2] != sent:
                return False
            ahead = sight[place - 1][4]
            if not (known if ahead is not None and ahead[0] == "own" else opened_form(tag, place - 1)):
                return False
        elif not known and (tag is not None or of_the_rest(rest, spot)):
            return False
        if goal[0] == "house" and of_the_rest(rest, goal):
            if place + 1 == len(sight) or sight[place + 1][0] != goal:
                return False
    return own_tags_form([row[4] for row in sight])


def sight_others_form(rest, sight):
    people = []
    for place, (spot, _, sent, _, tag) in enumerate(sight):
        if tag is not None and tag[0] == "own" and tag[2] > 0 and not of_the_rest(rest, spot):
            ahead = [row for row in sight[:place] if row[4] == ("own", tag[1], tag[2] - 1)][0]
            if ahead[3] is None or ahead[3] > sent:
                return False
        if tag is None and spot[0] == "person":
            people.append(spot)
        if tag is None and spot[0] == "house":
            outs = [row for row in sight[:place] if row[0] == spot and row[4] is None]
            if len(outs) >= len(in_time(sight, spot, sent)):
                return False
    return len(set(people)) == len(people)


def known(row):
    return row[4] is not None and row[4][0] == "own"


def in_time(sight, spot, moment):
    """The TOKENS, not known, that this HOUSE took till moment."""
    return [token for token, row in enumerate(sight)
            if row[1] == spot and not known(row) and row[3] is not None and row[3] <= moment]


def outs(sight):
    return [token for token, row in enumerate(sight) if row[0][0] == "house" and row[4] is None]


def candidates(sight, token):
    """All that the words of a THREADING let stand at this place, whatever stands at the other ones."""
    spot, _, sent, _, tag = sight[token]
    if spot[0] == "person":
        return [None]
    if tag is None:
        return in_time(sight, spot, sent)
    if tag[0] == "opened":
        return [tag[1]]
    return [own for own, row in enumerate(sight) if row[4] == ("own", tag[1], tag[2] - 1)]


def threadings(sight):
    """All THREADINGS, ascending."""
    free, told = [candidates(sight, token) for token in range(len(sight))], []

    def go_on(begun, used):
        if len(begun) == len(sight):
            told.append(tuple(begun))
            return
        for own in free[len(begun)]:
            if len(begun) not in places:
                go_on(begun + [own], used)
            elif own not in used:
                go_on(begun + [own], used | {own})

    places = set(outs(sight))
    go_on([], set())
    return told


def way_of(threading, token):
    """token, and what it came of, back to a PERSON."""
    return [token] + ([] if threading[token] is None else way_of(threading, threading[token]))


def sender(sight, threading, token):
    return sight[way_of(threading, token)[-1]][0][1]


def lie(sight, threading, one, other):
    """Whether both lie together, asked of each moment."""
    near, far = sight[one], sight[other]
    if one == other or near[1] != far[1] or known(near) or known(far) or near[3] is None or far[3] is None:
        return False
    for moment in range(1, max(row[2] for row in sight) + 40):
        if near[3] <= moment and far[3] <= moment:
            gone = [later for later, own in enumerate(threading) if own in (one, other) and sight[later][2] < moment]
            if not gone:
                return True
    return False


def all_swaps(sight, threading):
    return {(one, other) for other in range(len(sight)) for one in range(other)
            if lie(sight, threading, one, other) and (one in threading or other in threading)}


def exchanged(threading, swap):
    return tuple(dict((swap, swap[::-1])).get(own, own) for own in threading)


def shares(sight, rows, token):
    """The SHARES of token in these THREADINGS."""
    people = [sender(sight, row, token) for row in rows]
    parts = [(own, Fraction(people.count(own), len(people))) for own in sorted(set(people))]
    return tuple((own, (part.numerator, part.denominator)) for own, part in parts)
