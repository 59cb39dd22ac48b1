"""Prices of corners, and the cutting that prices tell."""

from underthree.cuttingkinds import cutting_with, is_cutting
from underthree.errors import NoCutting
from underthree.kinds import is_positive
from underthree.needs import need
from underthree.neighbours import need_corner, neighbour_lots


def prices_of(cutting):
    """The prices of all corners."""
    need(is_cutting(cutting), "cutting")
    # A corner's neighbours, in their sequence round, are parted by its triangles.
    return tuple([len(lot) - 1 for lot in neighbour_lots(cutting)])


def chords_at(cutting, corner):
    """How many chords lead to the corner."""
    need_corner(cutting, corner, "corner")
    return len([chord for chord in cutting[1] if corner in chord])


def cutting_by(prices):
    """The cutting that has the prices."""
    need_prices(prices)
    ears, chords, left = dropped(prices)
    if left != (1, 1, 1):
        raise NoCutting(left)
    return cutting_with(len(prices), chords)


def has_cutting(prices):
    """Whether a cutting has the prices."""
    need_prices(prices)
    ears, chords, left = dropped(prices)
    return left == (1, 1, 1)


def need_prices(prices):
    """Raise NotUsable unless prices are at least three integers of at least 1."""
    need(isinstance(prices, tuple) and len(prices) >= 3 and all([is_positive(price) for price in prices]), "prices")


def dropped(prices):
    """The corners of the entries that are dropped, the chords that cut them off, and the row that is left."""
    names = list(range(len(prices)))
    row = list(prices)
    ears = []
    chords = []
    while len(row) >= 4 and 1 in row and is_ear_at(row, row.index(1)):
        at = row.index(1)
        ears.append(names[at])
        chords.append(cut_off(names, row, at))
    return (tuple(ears), chords, tuple(row))


def is_ear_at(row, at):
    """Whether the entry at this place of the row of prices is 1, and none of the two beside it is."""
    return row[at] == 1 and row[at - 1] != 1 and row[(at + 1) % len(row)] != 1


def cut_off(names, row, at):
    """Take the corner at this place out of both lists, lower the prices beside it; the chord that cuts it off."""
    behind = (at + 1) % len(row)
    chord = (names[at - 1], names[behind])
    row[at - 1] -= 1
    row[behind] -= 1
    row.pop(at)
    names.pop(at)
    return chord
