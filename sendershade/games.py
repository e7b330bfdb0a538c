"""One house as a game: what the rest finds by letting letters come, at best, and surely, whatever goes."""

from sendershade.errors import NoPaper, Unfit
from sendershade.forms import frozen, is_below, is_from, is_number, is_row
from sendershade.plans import is_plan, played_out
from sendershade.worlds import is_begun


def is_stand(thing):
    """Whether thing is a STAND."""
    if not is_row(thing, 5) or not all([is_from(part, 0) for part in thing]):
        return False
    _, _, since, hidden, _ = thing
    return hidden <= since and (hidden > 0 or since == 0)


def _going(batch, keep, lying):
    """How many go if so many lie."""
    return lying - keep if lying >= batch + keep else 0


def _turns_with(batch, keep, stand, move):
    """The list of the TURNS at stand in which i and j are those of move."""
    i, j = move
    steady, own = stand[3] + i, stand[4] + j
    many = _going(batch, keep, steady + own)
    return [(i, j, gone) for gone in range(max(0, many - own), min(many, steady) + 1)]


def _moves(stand):
    """The list of the pairs (i, j) of TURNS at stand, ascending."""
    return [(i, j) for i in range(stand[0] + 1) for j in range(stand[1] + 1) if i + j > 0]


def _turns(batch, keep, stand):
    """As turns_at; stand is frozen."""
    return tuple([turn for move in _moves(stand) for turn in _turns_with(batch, keep, stand, move)])


def turns_at(batch, keep, stand):
    """The set of the TURNS at stand."""
    return _turns(batch, keep, frozen(stand))


def _behind(batch, keep, stand, turn):
    """As after_turn, of a TURN that is one there."""
    waiting, unsent, since, hidden, own = stand
    i, j, gone = turn
    left = hidden + i - gone
    others = _going(batch, keep, hidden + i + own + j) - gone
    later = (waiting - i, unsent - j, since + i if left > 0 else 0, left, own + j - others)
    return (later, since + i if gone > 0 else None)


def after_turn(batch, keep, stand, turn):
    """The pair of the STAND behind turn, and of what it finds."""
    stand, turn = frozen(stand), frozen(turn)
    if turn not in _turns(batch, keep, stand):
        raise Unfit()
    return _behind(batch, keep, stand, turn)


def _least(numbers):
    """The least of numbers, but None; None without."""
    return min([number for number in numbers if number is not None], default=None)


def _greatest(numbers):
    """The greatest of numbers; None if one of them is None."""
    return None if None in numbers else max(numbers)


def _sure_by(batch, keep, stand, move, told):
    """The least that the rest surely finds by a move, and behind it; told has the values of all STANDS behind."""
    ends = [_behind(batch, keep, stand, turn) for turn in _turns_with(batch, keep, stand, move)]
    return _greatest([_least((found, told[later][1])) for later, found in ends])


def _tell_values(batch, keep, stand, told):
    """Put the pair of best_found and sure_found into told, for stand and all that TURNS from it lead to."""
    if stand in told:
        return
    best = []
    for turn in _turns(batch, keep, stand):
        later, found = _behind(batch, keep, stand, turn)
        _tell_values(batch, keep, later, told)
        best.extend([found, told[later][0]])
    sure = [_sure_by(batch, keep, stand, move, told) for move in _moves(stand)]
    told[stand] = (_least(best), _least(sure))


def _values(batch, keep, stand):
    """A dict with the values of stand and of all STANDS that TURNS from it lead to."""
    told = {}
    _tell_values(batch, keep, stand, told)
    return told


def best_found(batch, keep, stand):
    """The least that TURNS from stand on find; None if they never find."""
    stand = frozen(stand)
    return _values(batch, keep, stand)[stand][0]


def sure_found(batch, keep, stand):
    """The least that the rest is sure to find from stand on; None if nothing."""
    stand = frozen(stand)
    return _values(batch, keep, stand)[stand][1]


def _is_sure(batch, keep, stand, move, many, told):
    """Whether a move surely finds many or less, by it or behind it."""
    least = _sure_by(batch, keep, stand, move, told)
    return least is not None and least <= many


def sure_move(batch, keep, stand, many):
    """A pair (i, j) by which the rest is sure to find many or less."""
    stand = frozen(stand)
    told = _values(batch, keep, stand)
    for move in _moves(stand):
        if _is_sure(batch, keep, stand, move, many, told):
            return move
    raise NoPaper()


def is_sure_move(batch, keep, stand, many, thing):
    """Whether thing is a pair (i, j) by which the rest is sure to find many or less."""
    stand = frozen(stand)
    if not is_row(thing, 2) or not is_below(thing[0], stand[0] + 1) or not is_below(thing[1], stand[1] + 1):
        return False
    return thing != (0, 0) and _is_sure(batch, keep, stand, thing, many, _values(batch, keep, stand))


def found_table(batch, keep, people, bad):
    """The tuple of the triples of each STAND that PLAYS come to, and of its best_found and sure_found."""
    told = _values(batch, keep, (people, bad, 0, 0, 0))
    return tuple([(stand, told[stand][0], told[stand][1]) for stand in sorted(told)])


def _finds_along(batch, keep, stand, play):
    """The tuple of what the TURNS of play find from stand on; None if play, whatever it is, is no PLAY there."""
    if not isinstance(play, tuple):
        return None
    told = []
    for turn in play:
        if not is_row(turn, 3) or not all([is_number(part) for part in turn]):
            return None
        if turn not in _turns(batch, keep, stand):
            return None
        stand, found = _behind(batch, keep, stand, turn)
        told.append(found)
    return tuple(told)


def is_play(batch, keep, people, bad, thing):
    """Whether thing is a PLAY."""
    return _finds_along(batch, keep, (people, bad, 0, 0, 0), thing) is not None


def finds_of(batch, keep, people, bad, play):
    """The tuple of what the TURNS of play find, None for those by which no steady one goes."""
    told = _finds_along(batch, keep, (people, bad, 0, 0, 0), frozen(play))
    if told is None:
        raise Unfit()
    return told


def _luck_of(batch, keep, bad, play, comes):
    """LUCK by which as many steady ones go as play tells, comes being the TOKENS, those from bad on steady ones."""
    lying, luck = [], []
    for (_, _, gone), tokens in zip(play, comes):
        lying.extend(tokens)
        others = _going(batch, keep, len(lying)) - gone
        # The first ones of both kinds go.
        goes = [token for token in lying if token >= bad][:gone] + [token for token in lying if token < bad][:others]
        for token in goes:
            luck.append(lying.index(token))
            lying.remove(token)
    return tuple(luck)


def play_world(batch, keep, people, bad, play):
    """A WORLD and a PLAN by which one HOUSE takes and lets go as play tells."""
    play = frozen(play)
    finds_of(batch, keep, people, bad, play)
    # The rest's letters go on the roads first: their TOKENS are 0 to bad - 1.
    steady, own, comes = bad, 0, []
    for i, j, _ in play:
        comes.append(tuple(list(range(steady, steady + i)) + list(range(own, own + j))))
        steady, own = steady + i, own + j
    wishes = tuple([(1, (person, (0,), person, 0)) for person in range(people)]) + (None,) * bad
    letters = tuple([(people + place, (0,), 0, 0) for place in range(bad)])
    bins = (((), (), _luck_of(batch, keep, bad, play, comes)),)
    rest = (tuple(range(people, people + bad)), ())
    world = ((people + bad, 1), rest, ((batch, keep, None, True, True),), wishes, 0, bins, (), ())
    return (world, ((letters, ()),) + tuple([((), tokens) for tokens in comes]))


def _steady_and_own(last, tokens):
    """The pair of how many of tokens are of steady PERSONS' letters, and how many are not."""
    steady = [token for token in tokens if last[6][token][0][0][0] not in last[1][0]]
    return (len(steady), len(tokens) - len(steady))


def _told_by(last, moment):
    """The triple of how many steady ones, and others, the only HOUSE took at moment, and how many steady ones went."""
    taken = [token for token, then in last[5][0][1] if then == moment]
    gone = [token for token, row in enumerate(last[6]) if row[1] == ("house", 0) and row[2] == moment]
    return _steady_and_own(last, taken) + (_steady_and_own(last, gone)[0],)


def is_play_world(batch, keep, people, bad, play, thing):
    """Whether thing is a WORLD and a PLAN by which one HOUSE takes and lets go as play tells."""
    play = frozen(play)
    finds_of(batch, keep, people, bad, play)
    if not is_row(thing, 2) or not is_begun(thing[0]) or not is_plan(thing[0], thing[1]):
        return False
    world, plan = thing
    rest = (tuple(range(people, people + bad)), ())
    if world[:3] != ((people + bad, 1), rest, ((batch, keep, None, True, True),)) or len(plan) != len(play) + 1:
        return False
    last = played_out(world, plan)
    rows = [_told_by(last, moment + 1) for moment in range(len(plan))]
    return rows == [(0, 0, 0)] + list(play)
