"""Ears that are wished, and prices that are never above 3."""

from underthree.cornerprices import prices_of
from underthree.cuttingkinds import are_beside, cutting_with, is_corners
from underthree.errors import Beside
from underthree.kinds import is_lot
from underthree.needs import need
from underthree.shapes import zigzag, zigzag_back

# The two cuttings with a triangle of chords alone and no price above 3.
HEXES = ((6, ((0, 2), (0, 4), (2, 4))), (6, ((1, 3), (1, 5), (3, 5))))


def ears_of(cutting):
    """The lot of the ears."""
    return tuple([corner for corner, price in enumerate(prices_of(cutting)) if price == 1])


def can_quiet(corners, quiet):
    """Whether a cutting of so many corners has ears at all of quiet."""
    _need_quiet(corners, quiet)
    if corners == 2:
        return len(quiet) == 0
    return _first_beside(corners, quiet) is None


def quiet_cutting(corners, quiet):
    """A cutting of so many corners that has ears at all of quiet."""
    _need_quiet(corners, quiet)
    need(corners > 2 or len(quiet) == 0, "quiet")
    pair = _first_beside(corners, quiet)
    if pair is not None:
        here, there = pair
        raise Beside(here, there)
    chords = []
    left = list(range(corners))
    for corner in quiet:
        # Of three that are left, each is an ear already.
        if len(left) > 3:
            at = left.index(corner)
            chords.append((left[at - 1], left[(at + 1) % len(left)]))
            left.pop(at)
    chords.extend([(left[0], other) for other in left[2:-1]])
    return cutting_with(corners, chords)


def worst_price(cutting):
    """The greatest price."""
    return max(prices_of(cutting))


def level_count(corners):
    """How many cuttings of so many corners have no price above 3."""
    return len(level_cuttings(corners))


def level_cuttings(corners):
    """The ascending tuple of the cuttings with no price above 3."""
    need(is_corners(corners), "corners")
    # Where no price is above 3, the chords go to and fro; only of six corners can a triangle have no side instead.
    found = list(HEXES) if corners == 6 else []
    found.extend([zigzag(corners, corner) for corner in range(corners)])
    found.extend([zigzag_back(corners, corner) for corner in range(corners)])
    return tuple(sorted(set(found)))


def _need_quiet(corners, quiet):
    need(is_corners(corners), "corners")
    need(is_lot(quiet) and all([corner < corners for corner in quiet]), "quiet")


def _first_beside(corners, quiet):
    """The first two of quiet that are neighbours round the polygon, from four corners on; or None."""
    if corners < 4:
        return None
    for here in quiet:
        for there in quiet:
            if here < there and are_beside(corners, here, there):
                return (here, there)
    return None
