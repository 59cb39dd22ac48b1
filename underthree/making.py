"""The cuts that the walk tells."""

from underthree.cutkinds import in_sequence
from underthree.needs import need_queue
from underthree.stands import stand_of
from underthree.walking import steps_from


def cuts_by(queue):
    """The cuts of the walk."""
    need_queue(queue)
    cuts = []
    for stand, rule, strike in steps_from(stand_of(queue)):
        if strike[0] == "element":
            cuts.extend(_cuts_at(stand, strike[1]))
        else:
            cuts.append(_cut_of(stand[1], rule, strike[1:]))
    return in_sequence(cuts)


def _cuts_at(stand, element):
    left, asks = stand
    at = left.index(element)
    behind = left[at + 1]
    ends = [end for begin, end in asks if begin == element]
    return [(left[at - 1], element, behind)] + [(element, behind, end) for end in ends]


def _cut_of(asks, rule, ask):
    low, high = ask
    if rule == 2:
        return (low, max([end for begin, end in asks if begin == low and end < high]), high)
    return (low, min([begin for begin, end in asks if end == high and begin > low]), high)
