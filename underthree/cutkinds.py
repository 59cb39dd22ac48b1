"""What are cuts, their checker, and which stretches they make."""

from underthree.kinds import is_asks, is_group, is_number
from underthree.needs import need, refuse


def is_cuts(thing):
    """Whether thing is cuts."""
    return cuts_fault(thing) is None


def lets_cuts(asks, thing):
    """How many triples thing has, cuts that make each wide ask."""
    need(is_asks(asks), "asks")
    refuse(cuts_fault(thing))
    at = first_unmade(thing, asks)
    if at is not None:
        refuse(("ask", at))
    return len(thing)


def cuts_fault(thing):
    """None for cuts, else the word and the place of the first fault."""
    if not isinstance(thing, tuple):
        return ("shape", -1)
    made = {}
    for at, triple in enumerate(thing):
        if not _is_cut(triple):
            return ("cut", at)
        if at > 0 and not size_and_low(thing[at - 1]) < size_and_low(triple):
            return ("order", at)
        low, cut, high = triple
        if not (_is_ready(made, low, cut) and _is_ready(made, cut, high)):
            return ("part", at)
        made[(low, high)] = True
    return None


def size_and_low(triple):
    """What the sequence of cuts goes by."""
    low, cut, high = triple
    return (high - low, low)


def in_sequence(triples):
    """The triples in the sequence of cuts."""
    return tuple(sorted(triples, key=size_and_low))


def made_by(cuts):
    """The dict of the stretches that the cuts make, each with its cut."""
    return {(low, high): cut for low, cut, high in cuts}


def last_end(cuts):
    """The greatest end of a stretch that the cuts make, 0 without any."""
    return max([triple[2] for triple in cuts], default=0)


def first_unmade(cuts, asks):
    """The place of the first wide ask that the cuts do not make, None without one."""
    made = made_by(cuts)
    for at, ask in enumerate(asks):
        if not _is_ready(made, ask[0], ask[1]):
            return at
    return None


def need_made(cuts, asks):
    """Raise NotUsable unless cuts are cuts, and asks a row whose wide asks they make."""
    need(is_cuts(cuts), "cuts")
    need(is_asks(asks) and first_unmade(cuts, asks) is None, "asks")


def _is_cut(thing):
    if not is_group(thing, 3) or not all([is_number(place) for place in thing]):
        return False
    low, cut, high = thing
    return low < cut < high


def _is_ready(made, low, high):
    return high - low == 1 or (low, high) in made
