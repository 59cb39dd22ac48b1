"""Rings: which joins do for all asks round a ring."""

from underthree.chains import chain_of
from underthree.cutkinds import in_sequence, size_and_low
from underthree.cuttingkinds import is_cutting
from underthree.errors import NotRound
from underthree.folds import fits_feed
from underthree.kinds import is_group, is_number, is_positive
from underthree.needs import need, refuse
from underthree.operations import is_operation, joined
from underthree.readies import can_come_round
from underthree.shapes import turned
from underthree.turns import turned_count


def ring_reaches(width, size):
    """Whether so few joins do as the mean of steady windows tells."""
    _need_ring(width, size)
    return can_come_round(width + 1, size)


def ring_ways(width, size):
    """How many cuttings are turned into themselves by the size."""
    _need_ring(width, size)
    return turned_count(width + 1, size)


def lets_ring_cuts(width, size, thing):
    """How many triples thing has, cuts that make all asks of the width round the ring."""
    _need_ring(width, size)
    refuse(_cuts_fault(width, size, thing))
    return len(thing)


def ring_cuts(cutting, size):
    """The triples of the cutting's stretches that begin in the ring."""
    need(is_cutting(cutting), "cutting")
    need(is_positive(size) and size >= cutting[0], "size")
    _need_round(cutting, size)
    return _triples_of(cutting, size)


def ring_run(cutting, operation, feed):
    """The answers of the asks round the ring of the values."""
    need(is_cutting(cutting), "cutting")
    need(is_operation(operation), "operation")
    need(fits_feed(operation, feed) and len(feed) >= cutting[0], "feed")
    size = len(feed)
    _need_round(cutting, size)
    values = {(low, 1): value for low, value in enumerate(feed)}
    for low, cut, high in _triples_of(cutting, size):
        one = values[_in_ring(size, low, cut)]
        other = values[_in_ring(size, cut, high)]
        values[_in_ring(size, low, high)] = joined(operation, one, other)
    return tuple([values[(low, cutting[0] - 1)] for low in range(size)])


def _need_ring(width, size):
    need(is_positive(width), "width")
    need(is_positive(size) and size > width, "size")


def _need_round(cutting, size):
    turn = size % cutting[0]
    if turned(cutting, turn) != cutting:
        raise NotRound(turn)


def _triples_of(cutting, size):
    width = cutting[0] - 1
    triples = []
    # What begins in the ring ends at most one width behind its last element.
    for high in range(2, size + width):
        triples.extend([(low, cut, high) for low, cut in chain_of(cutting, high) if 0 <= low < size])
    return in_sequence(triples)


def _in_ring(size, low, high):
    """What is one and the same for all names of a stretch of the ring."""
    return (low % size, high - low)


def _cuts_fault(width, size, thing):
    if not isinstance(thing, tuple):
        return ("shape", -1)
    made = {}
    for at, triple in enumerate(thing):
        if not _is_ring_cut(width, size, triple):
            return ("cut", at)
        if at > 0 and not size_and_low(thing[at - 1]) < size_and_low(triple):
            return ("order", at)
        low, cut, high = triple
        parts = [_in_ring(size, low, cut), _in_ring(size, cut, high)]
        if not all([part[1] == 1 or part in made for part in parts]):
            return ("part", at)
        made[_in_ring(size, low, high)] = True
    for low in range(size if width >= 2 else 0):
        if (low, width) not in made:
            return ("ask", low)
    return None


def _is_ring_cut(width, size, thing):
    if not is_group(thing, 3) or not all([is_number(place) for place in thing]):
        return False
    low, cut, high = thing
    return low < cut < high and low < size and high - low <= width
