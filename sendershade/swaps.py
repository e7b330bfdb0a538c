"""Swaps of two TOKENS that lie together in a HOUSE: the steps from one THREADING to each other one."""

from sendershade.errors import Unfit
from sendershade.forms import as_set, frozen, is_number, is_row
from sendershade.sights import ahead_of_outs, all_outs_in, houses_in, ins_at, is_in, outs_at
from sendershade.threads import first_threading, product_of
from sendershade.tokens import check_token


def _gone_at(sight, threading):
    """A dict with, for each in that something came of, the moment at which it went; sight is frozen."""
    return {threading[token]: sight[token][2] for token in all_outs_in(sight)}


def _lie(sight, gone, token, mate):
    """Whether two TOKENS lie together, gone being as _gone_at tells; sight is frozen."""
    one, other = sight[token], sight[mate]
    if token == mate or one[1] != other[1] or not is_in(one) or not is_in(other):
        return False
    return gone.get(token, other[3]) >= other[3] and gone.get(mate, one[3]) >= one[3]


def lie_together(sight, threading, token, mate):
    """Whether token and mate lie together in threading."""
    sight = frozen(sight)
    check_token(token, sight)
    check_token(mate, sight)
    return _lie(sight, _gone_at(sight, threading), token, mate)


def _pairs_in(sight):
    """The set of the pairs of two ins of one HOUSE; sight is frozen."""
    told = []
    for house in houses_in(sight):
        ins = ins_at(sight, house)
        told.extend([(token, mate) for token in ins for mate in ins if token < mate])
    return tuple(sorted(told))


def _swaps_in(sight, threading):
    """As swaps_of; sight is frozen."""
    gone = _gone_at(sight, threading)
    return tuple([(token, mate) for token, mate in _pairs_in(sight)
                  if (token in gone or mate in gone) and _lie(sight, gone, token, mate)])


def swaps_of(sight, threading):
    """The set of the SWAPS of threading."""
    return _swaps_in(frozen(sight), threading)


def _is_swap(sight, threading, thing):
    """Whether thing is a SWAP of threading; sight is frozen."""
    if not is_row(thing, 2) or not is_number(thing[0]) or not is_number(thing[1]):
        return False
    token, mate = thing
    if not 0 <= token < mate < len(sight):
        return False
    gone = _gone_at(sight, threading)
    return (token in gone or mate in gone) and _lie(sight, gone, token, mate)


def _exchanged(threading, swap):
    """threading swapped by one of its SWAPS."""
    token, mate = swap
    # Only outs come of ins, so nothing else in it changes.
    places = {token: mate, mate: token}
    return tuple([places.get(own, own) for own in threading])


def swapped(sight, threading, swap):
    """threading swapped by swap."""
    return swapped_by(sight, threading, (swap,))


def along_row(sight, threading, row):
    """The list of threading and of what it is behind each pair of row, whatever row is; all is frozen."""
    told = [threading]
    if not isinstance(row, tuple):
        raise Unfit()
    for swap in row:
        if not _is_swap(sight, told[-1], swap):
            raise Unfit()
        told.append(_exchanged(told[-1], swap))
    return told


def swapped_by(sight, threading, row):
    """threading swapped by all pairs of row, one by one."""
    return along_row(frozen(sight), frozen(threading), frozen(row))[-1]


def unlike_outs(one, other):
    """The set of the TOKENS that come of unlike ones in the THREADINGS one and other."""
    return tuple([token for token in range(len(one)) if one[token] != other[token]])


def _rings(one, other):
    """How many rings one and other have."""
    unlike = unlike_outs(one, other)
    left = {one[token]: other[token] for token in unlike}
    rings = 0
    for start in [one[token] for token in unlike]:
        here = start
        # What is taken out is asked no more, so each ring is closed once, and no way that is open closes.
        while here in left:
            ahead = left[here]
            del left[here]
            if ahead == start:
                rings += 1
            here = ahead
    return rings


def steps_apart(sight, one, other):
    """How many SWAPS the shortest SWAP ROWS from one to other have."""
    return len(unlike_outs(one, other)) - _rings(one, other)


def swap_row(sight, one, other):
    """A shortest SWAP ROW from one to other."""
    sight, here, row = frozen(sight), frozen(one), []
    for token in all_outs_in(sight):
        # All outs ahead are alike by now, so what this one shall come of lies there as what it comes of goes.
        if here[token] != other[token]:
            swap = as_set((here[token], other[token]))
            row.append(swap)
            here = _exchanged(here, swap)
    return tuple(row)


def is_swap_row(sight, one, other, thing):
    """Whether thing is a SWAP ROW from one to other, of any length."""
    sight, here = frozen(sight), frozen(one)
    if not isinstance(thing, tuple):
        return False
    for swap in thing:
        if not _is_swap(sight, here, swap):
            return False
        here = _exchanged(here, swap)
    return here == frozen(other)


def first_swaps(sight, one, other):
    """The set of the SWAPS with which shortest SWAP ROWS from one to other begin."""
    sight, one, other = frozen(sight), frozen(one), frozen(other)
    steps = steps_apart(sight, one, other)
    return tuple([swap for swap in _swaps_in(sight, one)
                  if steps_apart(sight, _exchanged(one, swap), other) == steps - 1])


def _outs_between(sight, token, mate):
    """The outs of the HOUSE of two ins, sent since the first of both came and ahead of the other; sight is frozen."""
    spot, moments = sight[token][1], sorted([sight[token][3], sight[mate][3]])
    return [own for own in outs_at(sight, spot[1]) if moments[0] <= sight[own][2] < moments[1]]


def _neighbours(sight):
    """As ever_together; sight is frozen."""
    many = ahead_of_outs(sight)
    return [pair for pair in _pairs_in(sight)
            if all([many[own] > 1 for own in _outs_between(sight, pair[0], pair[1])])]


def ever_together(sight):
    """The set of the pairs of neighbours, the lower one first."""
    return tuple(_neighbours(frozen(sight)))


def always_together(sight):
    """The set of the pairs of neighbours that lie together in each THREADING."""
    sight = frozen(sight)
    return tuple([pair for pair in _pairs_in(sight) if not _outs_between(sight, pair[0], pair[1])])


def _heaps_in(sight):
    """As heaps; sight is frozen."""
    own = {}
    for token, row in enumerate(sight):
        if is_in(row):
            own[token] = [token]
    for token, mate in _neighbours(sight):
        if own[token] != own[mate]:
            joined = own[token] + own[mate]
            for part in joined:
                own[part] = joined
    return as_set([as_set(heap) for heap in list(own.values())])


def heaps(sight):
    """The set of all HEAPS."""
    return _heaps_in(frozen(sight))


def heap_of(sight, token):
    """The HEAP with the in token."""
    sight = frozen(sight)
    check_token(token, sight)
    for heap in _heaps_in(sight):
        if token in heap:
            return heap
    raise Unfit()


def heap_outs(sight, heap):
    """The set of the outs that come of the ins of heap."""
    sight = frozen(sight)
    if frozen(heap) not in _heaps_in(sight):
        raise Unfit()
    # They are the same ones in each THREADING.
    threading = first_threading(sight)
    return tuple([token for token in all_outs_in(sight) if threading[token] in heap])


def heap_ways(sight, heap):
    """The lies_ahead of the outs of heap, multiplied."""
    many = ahead_of_outs(frozen(sight))
    return product_of([many[token] for token in heap_outs(sight, heap)])
