"""Sights: what there is to be told of whom letters may come, HOUSE by HOUSE, without what they are."""

from sendershade.bins import is_careful
from sendershade.covers import goes_to
from sendershade.errors import Unfit
from sendershade.forms import as_set, frozen, is_exactly, is_from, is_row, never_falls
from sendershade.nets import is_spot, is_steady
from sendershade.tokens import check_token
from sendershade.views import is_own_tag, tag_in


def check_careful(world):
    """Raise Unfit() if a steady HOUSE of world has a RULE that is not careful."""
    for house, rule in enumerate(world[2]):
        if house not in world[1][1] and not is_careful(rule):
            raise Unfit()


def _came_to_house(world, token, goal):
    """The moment at which a steady HOUSE took token, which is for goal; None if there is none."""
    if goal[0] == "person":
        return None
    # The BINS of the rest's HOUSES are empty for ever.
    for taken, moment in world[5][goal[1]][1]:
        if taken == token:
            return moment
    return None


def sight_of(world):
    """The SIGHT of world."""
    world = frozen(world)
    check_careful(world)
    told = []
    for token, (cover, spot, sent) in enumerate(world[6]):
        goal = goes_to(cover)
        told.append((spot, goal, sent, _came_to_house(world, token, goal), tag_in(world, token)))
    return tuple(told)


def is_own(row):
    """Whether a PASSING is known."""
    return row[4] is not None and row[4][0] == "own"


def is_in(row):
    """Whether a PASSING is an in of the HOUSE that it is for."""
    return row[3] is not None and not is_own(row)


def is_out(row):
    """Whether a PASSING is an out of the HOUSE from which it is."""
    return row[0][0] == "house" and row[4] is None


def ins_at(sight, house):
    """As ins_of; sight is frozen."""
    return tuple([token for token, row in enumerate(sight) if row[1] == ("house", house) and is_in(row)])


def outs_at(sight, house):
    """As outs_of; sight is frozen."""
    return tuple([token for token, row in enumerate(sight) if row[0] == ("house", house) and is_out(row)])


def all_outs_in(sight):
    """As all_outs; sight is frozen."""
    return tuple([token for token, row in enumerate(sight) if is_out(row)])


def houses_in(sight):
    """The set of the HOUSES that have ins; no other one has outs."""
    return as_set([row[1][1] for row in sight if is_in(row)])


def ready_for(sight, token):
    """The set of the ins of the HOUSE of an out that came in time for it; sight is frozen."""
    spot, _, sent = sight[token][:3]
    return tuple([own for own in ins_at(sight, spot[1]) if sight[own][3] <= sent])


def ahead_of_outs(sight):
    """A dict with, for each out, how many lie in its HOUSE as it goes; sight is frozen."""
    told = {}
    for house in houses_in(sight):
        for place, token in enumerate(outs_at(sight, house)):
            told[token] = len(ready_for(sight, token)) - place
    return told


def _is_passing(net, rest, row):
    """Whether row is as the first two lines of the table of is_sight say, whatever stands around it."""
    if not is_row(row, 5) or not is_spot(net, row[0]) or not is_spot(net, row[1]) or not is_from(row[2], 1):
        return False
    spot, goal, sent, came, _ = row
    if came is not None and (goal[0] == "person" or not is_steady(rest, goal) or not is_from(came, sent + 1)):
        return False
    if spot[0] == "person":
        return goal[0] == "house"
    return goal[0] == "person" or goal[1] > spot[1]


def _is_tag_fit(net, rest, sight, place):
    """Whether the tag at place fits its SPOTS, and, from a HOUSE of the rest, what stands right ahead of it."""
    spot, goal, sent, _, tag = sight[place]
    known = is_own_tag(net, rest, (spot, goal), tag)
    if is_steady(rest, spot) or spot[0] == "person":
        return known or (tag is None and is_steady(rest, spot))
    if place == 0 or sight[place - 1][1:3] != (spot, sent):
        return False
    # Of the tags, which are not all looked at yet, those of the rest's LETTERS alone are triples.
    if is_row(sight[place - 1][4], 3):
        return known
    return is_exactly(tag, ("opened", place - 1))


def _are_own_tags_fit(rest, sight):
    """Whether each COVER of an "own" tag stands once, behind the one with j less, and was taken in time."""
    found = {}
    for spot, _, sent, came, tag in sight:
        if tag is None or tag[0] == "opened":
            continue
        _, letter, place = tag
        ahead, taken = found.get(letter, (-1, None))
        if ahead + 1 != place:
            return False
        if place > 0 and is_steady(rest, spot) and (taken is None or taken > sent):
            return False
        found[letter] = (place, came)
    return True


def _are_opened(rest, sight):
    """Whether something stands right behind each PASSING for a HOUSE of the rest, and from there."""
    for place, row in enumerate(sight):
        if row[1][0] == "house" and not is_steady(rest, row[1]):
            if place + 1 == len(sight) or sight[place + 1][0] != row[1]:
                return False
    return True


def _are_others_fit(sight):
    """Whether no PERSON is twice there with tag None, and each out has something that it may come of."""
    people = [row[0] for row in sight if row[0][0] == "person" and row[4] is None]
    if len(as_set(people)) < len(people):
        return False
    many = {}
    for token in all_outs_in(sight):
        spot = sight[token][0]
        if len(ready_for(sight, token)) <= many.get(spot, 0):
            return False
        many[spot] = many.get(spot, 0) + 1
    return True


def is_sight(net, rest, thing):
    """Whether thing has the form of a SIGHT."""
    if not isinstance(thing, tuple) or not all([_is_passing(net, rest, row) for row in thing]):
        return False
    if not never_falls([row[2] for row in thing]):
        return False
    if not all([_is_tag_fit(net, rest, thing, place) for place in range(len(thing))]):
        return False
    return _are_own_tags_fit(rest, thing) and _are_opened(rest, thing) and _are_others_fit(thing)


def is_known(sight, token):
    """Whether the PASSING of token is known."""
    check_token(token, sight)
    return is_own(sight[token])


def known_tokens(sight):
    """The set of the TOKENS whose PASSINGS are known."""
    return tuple([token for token, row in enumerate(sight) if is_own(row)])


def ins_of(sight, house):
    """The set of the ins of house."""
    return ins_at(frozen(sight), house)


def outs_of(sight, house):
    """The set of the outs of house."""
    return outs_at(frozen(sight), house)


def all_outs(sight):
    """The set of the outs of all HOUSES."""
    return all_outs_in(sight)


def sent_by(sight, person):
    """The TOKEN, not known, from person; None without."""
    for token, row in enumerate(frozen(sight)):
        if row[0] == ("person", person) and not is_own(row):
            return token
    return None


def come_home(sight):
    """The set of the TOKENS, not known, for a PERSON."""
    return tuple([token for token, row in enumerate(sight) if row[1][0] == "person" and not is_own(row)])


def check_out(sight, token):
    """Raise NoToken(token) if token is none of sight, Unfit() if it is no out."""
    check_token(token, sight)
    if not is_out(sight[token]):
        raise Unfit()


def lies_ahead(sight, token):
    """How many, not known, lie in the HOUSE of an out as it goes, this one too."""
    sight = frozen(sight)
    check_out(sight, token)
    return ahead_of_outs(sight)[token]


def least_lying(sight):
    """The least lies_ahead of all outs; None if there are none."""
    return min(list(ahead_of_outs(frozen(sight)).values()), default=None)


def _lying_behind(sight, house, moment):
    """As lying_behind; sight is frozen."""
    ins = [token for token in ins_at(sight, house) if sight[token][3] <= moment]
    return len(ins) - len([token for token in outs_at(sight, house) if sight[token][2] <= moment])


def lying_behind(sight, house, moment):
    """How many ins of house came till moment, less its outs till then."""
    return _lying_behind(frozen(sight), house, moment)


def emptied(sight, house):
    """The set of the moments at which house had an out and behind which none of its ins lies."""
    sight = frozen(sight)
    moments = as_set([sight[token][2] for token in outs_at(sight, house)])
    return tuple([moment for moment in moments if _lying_behind(sight, house, moment) == 0])


def sight_at(sight, moment):
    """The PASSINGS of sight till moment; what came later is not told."""
    told = []
    for spot, goal, sent, came, tag in frozen(sight):
        if sent <= moment:
            told.append((spot, goal, sent, came if came is not None and came <= moment else None, tag))
    return tuple(told)
