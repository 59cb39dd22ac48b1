"""Neighbours and triangles of cuttings."""

from underthree.cuttingkinds import is_cutting
from underthree.kinds import is_number
from underthree.needs import need


def neighbours_of(cutting, corner):
    """The lot of the corner's neighbours in the cutting."""
    need_corner(cutting, corner, "corner")
    return neighbour_lots(cutting)[corner]


def triangles_of(cutting):
    """The ascending tuple of the triangles."""
    need(is_cutting(cutting), "cutting")
    lots = neighbour_lots(cutting)
    found = []
    for one, lot in enumerate(lots):
        above = [corner for corner in lot if corner > one]
        for other in above:
            found.extend([(one, other, third) for third in above if third > other and third in lots[other]])
    return tuple(found)


def thirds_of(cutting, one, other):
    """The lot of the corners that make a triangle with one and its neighbour other."""
    need_corner(cutting, one, "one")
    lots = neighbour_lots(cutting)
    need(is_number(other) and other in lots[one], "other")
    return tuple([corner for corner in lots[one] if corner in lots[other]])


def need_corner(cutting, corner, word):
    """Raise NotUsable unless cutting is one, and the parameter called word a corner of it."""
    need(is_cutting(cutting), "cutting")
    need(is_number(corner) and corner < cutting[0], word)


def neighbour_lots(cutting):
    """The tuple of the lots of all corners' neighbours; nothing is checked."""
    corners, chords = cutting
    lists = [[(corner - 1) % corners, (corner + 1) % corners] for corner in range(corners)]
    for one, other in chords:
        lists[one].append(other)
        lists[other].append(one)
    # Of two corners the one ahead and the one behind are the same.
    return tuple([tuple(sorted(set(corners_beside))) for corners_beside in lists])
