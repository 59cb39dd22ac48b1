"""Rows of asks: made, looked at, parted into clubs."""

from underthree.errors import NotUsable
from underthree.kinds import crossed_asks, is_asks, is_stretch
from underthree.needs import need


def asks_of(*stretches):
    """The row of the stretches, told in any sequence, doubles too."""
    for at, stretch in enumerate(stretches):
        if not is_stretch(stretch):
            raise NotUsable("stretches", at)
    return tuple(sorted(set(stretches)))


def order_fault(asks):
    """None for a queue's row, else the first two asks that no queue has."""
    need(is_asks(asks), "asks")
    return crossed_asks(asks)


def wide_asks(asks):
    """The row of the asks of two or more elements."""
    need(is_asks(asks), "asks")
    return tuple([(low, high) for low, high in asks if high - low >= 2])


def covered(asks):
    """The lot of the elements that lie in an ask."""
    need(is_asks(asks), "asks")
    lot = []
    reached = 0
    for low, high in asks:
        lot.extend(list(range(max(low, reached), high)))
        reached = max(reached, high)
    return tuple(lot)


def clubs_of(asks):
    """The clubs of the wide asks, in the sequence of their first asks."""
    need(is_asks(asks), "asks")
    clubs = []
    reached = 0
    for ask in wide_asks(asks):
        # All elements from the first begin of a club to the end that it has reached lie in asks of it.
        if ask[0] < reached:
            clubs[-1].append(ask)
        else:
            clubs.append([ask])
        reached = max(reached, ask[1])
    return tuple([tuple(club) for club in clubs])


def longest_end(asks):
    """The greatest end of an ask, 0 without asks."""
    need(is_asks(asks), "asks")
    return max([ask[1] for ask in asks], default=0)
