"""What the rest sees of a WORLD: its VIEW, when two of them part, which rows it knows to be of one LETTER."""

from sendershade.covers import goes_to, is_cover, spots_on, word_shown
from sendershade.forms import as_set, frozen, is_below, is_exactly, is_from, is_number, is_row, never_falls
from sendershade.nets import is_spot, is_steady
from sendershade.plans import played
from sendershade.tokens import check_token
from sendershade.worlds import token_of


def tag_in(world, token):
    """As tag_of, of a TOKEN that is one; world is frozen."""
    (letter, place), spot, _ = world[6][token]
    if letter[0] in world[1][0]:
        return ("own", letter, place)
    # The letter is a steady PERSON's, so what is from one of the rest's SPOTS was opened there.
    if not is_steady(world[1], spot):
        return ("opened", token_of(world, (letter, place - 1)))
    return None


def tag_of(world, token):
    """The tag of token in the VIEW of world."""
    world = frozen(world)
    check_token(token, world[6])
    return tag_in(world, token)


def view_of(world):
    """The VIEW of world."""
    world = frozen(world)
    rows = [(spot, goes_to(cover), sent, tag_in(world, token), word_shown(world[1], cover))
            for token, (cover, spot, sent) in enumerate(world[6])]
    return (tuple(rows), world[7])


def views_along(world, plan):
    """The list of the VIEWS of world and of the WORLDS behind each CHOICE of plan."""
    return [view_of(own) for own in played(world, plan)]


def view_till(view, moment):
    """The rows and pairs of view that are not later than moment."""
    rows, again = frozen(view)
    return (tuple([row for row in rows if row[2] <= moment]), tuple([pair for pair in again if pair[0] <= moment]))


def _moments_of(view):
    """All moments at which view tells something."""
    rows, again = view
    return [row[2] for row in rows] + [pair[0] for pair in again]


def first_parted(near, far):
    """The least moment till which near and far are unlike; None if they are equal."""
    for moment in as_set(_moments_of(near) + _moments_of(far)):
        if view_till(near, moment) != view_till(far, moment):
            return moment
    return None


def same_view(world, other):
    """Whether world and other have one VIEW."""
    return view_of(world) == view_of(other)


def is_own_tag(net, rest, spots, tag):
    """Whether tag is ("own", letter, j), of the rest's LETTERS of net, for a COVER from and to spots."""
    if not is_row(tag, 3) or tag[0] != "own" or not is_cover(net, tag[1:]):
        return False
    _, letter, place = tag
    return letter[0] in rest[0] and spots_on(letter)[place:place + 2] == spots


def _is_plain_row(net, rest, row):
    """Whether row is as the first line of the table of is_view says, whatever stands ahead of it."""
    if not is_row(row, 5) or not is_spot(net, row[0]) or not is_spot(net, row[1]) or not is_from(row[2], 1):
        return False
    if row[1][0] == "person" and not is_steady(rest, row[1]):
        return is_from(row[4], 0)
    return row[4] is None


def _are_own_tags_fit(rows):
    """Whether the COVERS of "own" tags stand once each, behind those with all lower j."""
    found = {}
    for tag in [row[3] for row in rows]:
        if tag is not None and tag[0] == "own":
            _, letter, place = tag
            if found.get(letter, 0) != place:
                return False
            found[letter] = place + 1
    return True


def _is_tag_fit(net, rest, rows, place):
    """Whether the tag at place is as the second line of the table says, but for what _is_followed asks."""
    spot, goal, _, tag, _ = rows[place]
    if tag is None:
        return is_steady(rest, spot)
    if is_own_tag(net, rest, (spot, goal), tag):
        return True
    if place == 0 or not is_exactly(tag, ("opened", place - 1)):
        return False
    return rows[place - 1][1] == spot and spot[0] == "house" and not is_steady(rest, spot)


def _is_followed(rest, rows, place):
    """Whether the third line of the table holds of the row at place, all tags being fit by themselves."""
    _, goal, sent, tag, _ = rows[place]
    if goal[0] == "person" or is_steady(rest, goal):
        return True
    if place + 1 == len(rows) or rows[place + 1][2] != sent:
        return False
    if tag is not None and tag[0] == "own":
        return rows[place + 1][3] == ("own", tag[1], tag[2] + 1)
    return rows[place + 1][3] == ("opened", place)


def _is_again(rows, thing):
    """Whether thing is as the last line of the table says."""
    if not isinstance(thing, tuple):
        return False
    if not all([is_row(pair, 2) and is_number(pair[0]) and is_below(pair[1], len(rows)) for pair in thing]):
        return False
    if not all([rows[token][2] <= moment for moment, token in thing]):
        return False
    return never_falls([moment for moment, _ in thing])


def is_view(net, rest, thing):
    """Whether thing has the form of a VIEW."""
    if not is_row(thing, 2) or not isinstance(thing[0], tuple):
        return False
    rows, again = thing
    if not all([_is_plain_row(net, rest, row) for row in rows]) or not never_falls([row[2] for row in rows]):
        return False
    places = list(range(len(rows)))
    if not all([_is_tag_fit(net, rest, rows, place) for place in places]) or not _are_own_tags_fit(rows):
        return False
    return all([_is_followed(rest, rows, place) for place in places]) and _is_again(rows, again)


def seen_at(view, moment):
    """The pair of the set of the TOKENS sent at moment and of the tuple of those that came again then."""
    rows, again = view
    sent = [token for token, row in enumerate(rows) if row[2] == moment]
    return (tuple(sent), tuple([token for then, token in again if then == moment]))


def hidden_in(view):
    """The set of the TOKENS with the tag None."""
    return tuple([token for token, row in enumerate(view[0]) if row[3] is None])


def told_words(view):
    """The set of the pairs of a TOKEN and of the word that is seen of it."""
    return tuple([(token, row[4]) for token, row in enumerate(view[0]) if row[4] is not None])


def own_letters(view):
    """The set of the rest's LETTERS in the tags."""
    tags = [row[3] for row in frozen(view)[0]]
    return as_set([tag[1] for tag in tags if tag is not None and tag[0] == "own"])


def _known_back(rows, token):
    """The TOKEN of which the rest itself knows token to come; None without one."""
    tag = rows[token][3]
    if tag is None:
        return None
    if tag[0] == "opened":
        return tag[1]
    _, letter, place = tag
    if place == 0:
        return None
    return [row[3] for row in rows].index(("own", letter, place - 1))


def row_links(view, token):
    """The tuple of the links of token, ascending."""
    rows = frozen(view)[0]
    check_token(token, rows)
    told = []
    while token is not None:
        told.append(token)
        token = _known_back(rows, token)
    return tuple(told[::-1])


def row_ends(view):
    """The set of the TOKENS that are links of no other one."""
    rows = frozen(view)[0]
    known = [_known_back(rows, token) for token in range(len(rows))]
    return tuple([token for token in range(len(rows)) if token not in known])
