"""Cuttings of special shapes; cuttings turned and mirrored."""

from underthree.cuttingkinds import are_beside, cutting_with, is_corners, is_cutting
from underthree.kinds import is_number
from underthree.needs import need


def fan(corners, corner):
    """The cutting all of whose chords lead to the corner."""
    _need_corner(corners, corner)
    others = [other for other in range(corners) if other != corner and not are_beside(corners, corner, other)]
    return cutting_with(corners, [(corner, other) for other in others])


def zigzag(corners, corner):
    """The cutting whose chords go to and fro, from the corner behind this one on."""
    _need_corner(corners, corner)
    return _to_and_fro(corners, corner, 1)


def zigzag_back(corners, corner):
    """The cutting whose chords go to and fro, from the corner ahead of this one on."""
    _need_corner(corners, corner)
    return _to_and_fro(corners, corner, -1)


def turned_cutting(cutting, by):
    """The cutting turned by this number."""
    need(is_cutting(cutting), "cutting")
    need(is_number(by), "by")
    return turned(cutting, by)


def mirrored_cutting(cutting):
    """The cutting with the corners named from the last one on."""
    need(is_cutting(cutting), "cutting")
    corners, chords = cutting
    return cutting_with(corners, [(corners - 1 - one, corners - 1 - other) for one, other in chords])


def turned(cutting, by):
    """What turned_cutting returns; nothing is checked."""
    corners, chords = cutting
    return cutting_with(corners, [((one + by) % corners, (other + by) % corners) for one, other in chords])


def _need_corner(corners, corner):
    need(is_corners(corners), "corners")
    need(is_number(corner) and corner < corners, "corner")


def _to_and_fro(corners, corner, way):
    # The corners 1, -1, 2, -2, .. from the one left out, as many as there are.
    steps = [(at // 2 + 1) * (way if at % 2 == 0 else -way) for at in range(corners - 1)]
    row = [(corner + step) % corners for step in steps]
    # The last two that follow one another are neighbours round the polygon, and no chord.
    return cutting_with(corners, list(zip(row, row[1:-1])))
