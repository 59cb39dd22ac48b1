"""What is a cutting, and its checker."""

from underthree.kinds import is_group, is_integer, is_stretch
from underthree.needs import refuse


def is_cutting(thing):
    """Whether thing is a cutting."""
    return cutting_fault(thing) is None


def lets_cutting(thing):
    """How many chords thing, a cutting, has."""
    refuse(cutting_fault(thing))
    return len(thing[1])


def is_corners(thing):
    """Whether thing is a number of corners, an integer of at least 2."""
    return is_integer(thing) and thing >= 2


def cutting_fault(thing):
    """None for a cutting, else the word and the place of its first fault."""
    if not is_group(thing, 2):
        return ("shape", -1)
    corners, chords = thing
    if not is_corners(corners):
        return ("corners", -1)
    if not isinstance(chords, tuple):
        return ("chords", -1)
    for at, chord in enumerate(chords):
        word = chord_fault(corners, chords[:at], chord)
        if word is not None:
            return (word, at)
    if len(chords) < corners - 3:
        return ("many", -1)
    return None


def cutting_with(corners, pairs):
    """The cutting of so many corners whose chords are the pairs, each told in any sequence."""
    return (corners, tuple(sorted([(min(pair), max(pair)) for pair in pairs])))


def are_beside(corners, one, other):
    """Whether two of the corners are neighbours round the polygon."""
    return (other - one) % corners in (1, corners - 1)


def chord_fault(corners, earlier, chord):
    """None for a chord behind the earlier ones that crosses none of them, else the word of its fault."""
    if not is_stretch(chord) or chord[1] >= corners or are_beside(corners, chord[0], chord[1]):
        return "chord"
    if len(earlier) > 0 and not earlier[-1] < chord:
        return "order"
    if any([low < chord[0] < high < chord[1] for low, high in earlier]):
        return "cross"
    return None
