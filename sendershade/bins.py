"""One house: what it refuses and takes, what lies there, what it lets go."""

from sendershade.errors import NoToken, Unfit
from sendershade.forms import as_set, frozen, is_from, is_row
from sendershade.luck import drawing, drawn, is_luck


def is_rule(thing):
    """Whether thing is a RULE."""
    if not is_row(thing, 5):
        return False
    batch, keep, wait, doubles, marks = thing
    if not is_from(batch, 1) or not is_from(keep, 0):
        return False
    if wait is not None and not is_from(wait, 1):
        return False
    return isinstance(doubles, bool) and isinstance(marks, bool)


def is_careful(rule):
    """Whether rule has no wait, and doubles and marks."""
    wait, doubles, marks = rule[2:]
    return wait is None and doubles and marks


def _is_taken(thing):
    """Whether thing is a tuple of pairs (token, moment), moments from 1, never falling."""
    if not isinstance(thing, tuple):
        return False
    if not all([is_row(pair, 2) and is_from(pair[0], 0) and is_from(pair[1], 1) for pair in thing]):
        return False
    return all([thing[place][1] <= thing[place + 1][1] for place in range(len(thing) - 1)])


def _is_part_of(part, row):
    """Whether all of part stand in row, in the order of part."""
    found = 0
    for token in row:
        if found < len(part) and part[found] == token:
            found += 1
    return found == len(part)


def is_bin(thing):
    """Whether thing is a BIN."""
    if not is_row(thing, 3):
        return False
    lying, taken, luck = thing
    if not isinstance(lying, tuple) or not _is_taken(taken) or not is_luck(luck):
        return False
    return all([is_from(token, 0) for token in lying]) and _is_part_of(lying, [token for token, _ in taken])


def empty_bin(luck):
    """The BIN with nothing lying, nothing taken."""
    return ((), (), frozen(luck))


def _check_tokens(tokens, whose):
    """Raise NoToken for the first of tokens that whose does not tell of."""
    for token in tokens:
        if not 0 <= token < len(whose):
            raise NoToken(token)


def is_refused(rule, box, token, whose):
    """Whether a TOKEN that is one, as whose tells, is refused."""
    doubles, marks = rule[3:]
    before = [other for other, _ in box[1]]
    if doubles and token in before:
        return True
    return marks and whose[token] in [whose[other] for other in before]


def box_with(rule, box, token, whose, moment):
    """The BIN behind a TOKEN that is one; arguments are frozen."""
    if is_refused(rule, box, token, whose):
        return box
    lying, taken, luck = box
    return (lying + (token,), taken + ((token, moment),), luck)


def refuses(rule, box, token, whose):
    """Whether token is refused."""
    _check_tokens((token,), whose)
    return is_refused(rule, box, token, whose)


def put_in(rule, box, token, whose, moment):
    """The BIN behind token, the same one if it is refused."""
    _check_tokens((token,), whose)
    return box_with(rule, frozen(box), token, whose, moment)


def must_go(rule, box, moment):
    """How many TOKENS go at this moment."""
    batch, keep, wait = rule[:3]
    lying = box[0]
    if wait is not None and lying and moment - taken_last(box, lying[0]) >= wait:
        return len(lying)
    if len(lying) >= batch + keep:
        return len(lying) - keep
    return 0


def box_without(rule, box, moment):
    """As let_go; arguments are frozen."""
    lying, taken, luck = box
    many = must_go(rule, box, moment)
    places = drawn(luck, len(lying), many)
    gone = tuple([lying[place] for place in places])
    left = tuple([token for place, token in enumerate(lying) if place not in places])
    return ((left, taken, luck[many:]), gone)


def let_go(rule, box, moment):
    """The pair of the BIN behind what goes at this moment and of the TOKENS that go, as they go."""
    return box_without(rule, frozen(box), moment)


def moment_of(rule, box, comes, whose, moment):
    """As house_moment, of TOKENS that are some; arguments are frozen."""
    for token in comes:
        box = box_with(rule, box, token, whose, moment)
    return box_without(rule, box, moment)


def house_moment(rule, box, comes, whose, moment):
    """The pair of the BIN behind a moment at which comes came, in order, and of the TOKENS that go."""
    _check_tokens(comes, whose)
    return moment_of(rule, frozen(box), comes, whose, moment)


def house_run(rule, luck, rows, whose):
    """The list of the pairs of house_moment for rows at the moments 1, 2, .., from an empty BIN on."""
    _check_tokens([token for comes in rows for token in comes], whose)
    box = empty_bin(luck)
    told = []
    for place, comes in enumerate(rows):
        box, gone = moment_of(rule, box, comes, whose, place + 1)
        told.append((box, gone))
    return told


def _taken_at(box, token):
    """The moments at which token was taken; NoToken(token) if it never was."""
    moments = [moment for other, moment in box[1] if other == token]
    if not moments:
        raise NoToken(token)
    return moments


def taken_first(box, token):
    """The first moment at which token was taken."""
    return _taken_at(box, token)[0]


def taken_last(box, token):
    """The last moment at which token was taken."""
    return _taken_at(box, token)[-1]


def gone_from(box):
    """The TOKENS of a BIN, none taken twice, that were taken and lie no more, as they were taken."""
    return tuple([token for token, _ in box[1] if token not in box[0]])


def still_wanted(rule, box):
    """How many TOKENS more must lie until some go without wait."""
    batch, keep = rule[:2]
    return max(0, batch + keep - len(box[0]))


def goes_by_wait(rule, box):
    """The moment from which on all go by wait if nothing more comes; None if they never do."""
    wait, lying = rule[2], box[0]
    if wait is None or not lying:
        return None
    return taken_last(box, lying[0]) + wait


def senders_lying(box, whose):
    """The set of the senders of the TOKENS that lie."""
    return as_set([whose[token] for token in box[0]])


def run_luck(rule, rows, whose, goes):
    """The plain LUCK by which house_run lets go just goes, in this order."""
    _check_tokens([token for comes in rows for token in comes], whose)
    if len(goes) != len(rows):
        raise Unfit()
    box = empty_bin(())
    numbers = []
    for place, comes in enumerate(rows):
        for token in comes:
            box = box_with(rule, box, token, whose, place + 1)
        luck = _luck_of_going(box[0], must_go(rule, box, place + 1), goes[place])
        numbers.extend(luck)
        box, _ = box_without(rule, (box[0], box[1], luck), place + 1)
    return tuple(numbers)


def _luck_of_going(lying, many, goes):
    """The plain LUCK by which of lying just so many go, and these; Unfit() if none does."""
    if len(goes) != many or len(as_set(goes)) != many:
        raise Unfit()
    if not all([token in lying for token in goes]):
        raise Unfit()
    return drawing(len(lying), [lying.index(token) for token in goes])
