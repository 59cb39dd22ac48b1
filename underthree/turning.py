"""The cuts of the turning keeper."""

from underthree.cutkinds import in_sequence
from underthree.needs import need_queue


def turning_cuts(queue):
    """The cuts of all stretches that the turning keeper makes."""
    need_queue(queue)
    cuts = []
    pole = None
    top = 0
    for low, high in queue:
        if pole is None or low > pole:
            cuts.extend([(begin, begin + 1, high) for begin in range(low, high - 1)])
            pole = high
            # The element at the pole needs no join.
            top = high + 1
            continue
        cuts.extend([(pole, end - 1, end) for end in range(top + 1, high + 1)])
        top = max(top, high)
        if low < pole < high:
            cuts.append((low, pole, high))
    return in_sequence(cuts)


def turning_count(queue):
    """How many cuts the turning keeper has."""
    return len(turning_cuts(queue))
