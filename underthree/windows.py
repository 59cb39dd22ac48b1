"""
Windows kept by cuttings, element by element.

A window is (width, hop, cutting): blocks of hop elements are what the cutting joins, of as many as it has corners less
one; the rest of the width, at most one block, is joined behind them. What is made is kept as a dict: for each begin the
pair of the end of the longest stretch made from there, and of its value.
"""

from underthree.chains import chain_of
from underthree.operations import joined


def put_in(window, operation, place, made, value):
    """Join what the element at this place completes: the pairs of asks and answers, and how many joins were done."""
    width, hop, cutting = window
    blocks = cutting[0] - 1
    block, part = divmod(place, hop)
    joins = _lengthened(operation, made, place - part, place, value)
    answers = []
    # The ask that has as many whole blocks as the cutting joins ahead of this one.
    low = (block - blocks) * hop
    if part + 1 == width - blocks * hop and low >= 0:
        answers.append(((low, place + 1), joined(operation, made[low][1], made[place - part][1])))
        joins += 1
    if part + 1 == hop:
        joins += _chained(window, operation, block + 1, made)
        if width == blocks * hop and low + hop >= 0:
            answers.append(((low + hop, place + 1), made[low + hop][1]))
    gone = [begin for begin in made if begin + width <= place + 1]
    for begin in gone:
        made.pop(begin)
    return (tuple(answers), joins)


def held_in(made):
    """The ascending tuple of the pairs of stretches and values."""
    return tuple([((begin, made[begin][0]), made[begin][1]) for begin in sorted(made)])


def made_from(held):
    """The dict of what is held."""
    return {low: (high, value) for (low, high), value in held}


def _lengthened(operation, made, begin, place, value):
    if begin == place:
        made[begin] = (place + 1, value)
        return 0
    made[begin] = (place + 1, joined(operation, made[begin][1], value))
    return 1


def _chained(window, operation, block, made):
    """Make the stretches of whole blocks that end with this many blocks; how many they are."""
    width, hop, cutting = window
    pairs = [(low * hop, cut * hop) for low, cut in chain_of(cutting, block) if low >= 0]
    for low, cut in pairs:
        made[low] = (block * hop, joined(operation, made[low][1], made[cut][1]))
    return len(pairs)
