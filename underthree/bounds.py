"""Bounds of the least: by clubs, by wide asks, by any strikes."""

from underthree.askrows import clubs_of, covered, wide_asks
from underthree.gains import gain_by
from underthree.needs import need_queue
from underthree.stands import stand_of, stands_along


def club_sum(asks):
    """The number of the elements of all clubs, added, less the number of clubs."""
    clubs = clubs_of(asks)
    return sum([len(covered(club)) for club in clubs]) - len(clubs)


def wide_count(asks):
    """The number of wide asks."""
    return len(wide_asks(asks))


def club_many(asks):
    """The number of clubs."""
    return len(clubs_of(asks))


def quick_bounds(queue):
    """The pair of a bound that the least reaches and of one that it does not pass."""
    need_queue(queue)
    by_clubs = club_sum(queue)
    by_asks = wide_count(queue)
    return (max(by_clubs, by_asks), 2 * by_clubs + by_asks - 2 * club_many(queue))


def sum_by(asks, strikes):
    """The sum of the gains of the strikes, struck one after the other."""
    stands = stands_along(stand_of(asks), strikes)
    return sum([gain_by(stand, strike) for stand, strike in zip(stands, strikes)])
