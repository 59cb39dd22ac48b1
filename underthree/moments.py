"""What cuts make in a step, and what is held at a moment."""

from underthree.brackets import needed_for
from underthree.cutkinds import is_cuts, need_made
from underthree.kinds import is_number, is_positive
from underthree.needs import need


def step_cuts(cuts, place):
    """The triples that end at the place, by falling begin."""
    need(is_cuts(cuts), "cuts")
    need(is_number(place), "place")
    return cuts_ending(cuts, place)


def step_table(cuts, size):
    """How many triples end at each place from 1 to the size."""
    need(is_cuts(cuts), "cuts")
    need(is_positive(size), "size")
    ends = [triple[2] for triple in cuts]
    return tuple([ends.count(place) for place in range(1, size + 1)])


def held_at(cuts, asks, place):
    """The stretches held at the moment."""
    need_made(cuts, asks)
    need(is_number(place), "place")
    return held_of(needed_for(cuts, asks), place)


def cuts_ending(cuts, place):
    """What step_cuts returns; nothing is checked."""
    # With one end, the sequence of cuts goes by rising size, and so by falling begin.
    return tuple([triple for triple in cuts if triple[2] == place])


def held_of(needed, place):
    """The stretches held at the moment, by the cuts that are needed; nothing is checked."""
    # The second part of a stretch ends where the stretch does, so the first parts alone can wait for it.
    return tuple(sorted(set([(low, cut) for low, cut, high in needed if cut <= place < high])))
