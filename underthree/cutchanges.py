"""Cuts that are made of other ones."""

from underthree.askchanges import are_counts, sums_of
from underthree.askrows import covered, longest_end
from underthree.cutkinds import first_unmade, in_sequence, is_cuts, last_end, made_by
from underthree.kinds import is_asks, is_number, is_positive
from underthree.needs import need


def mirrored_cuts(cuts, size):
    """The cuts as they are seen from the other end of so many elements."""
    need(is_cuts(cuts), "cuts")
    need(is_positive(size) and size >= last_end(cuts), "size")
    return in_sequence([(size - high, size - cut, size - low) for low, cut, high in cuts])


def moved_cuts(cuts, many):
    """The cuts with all places grown by many."""
    need(is_cuts(cuts), "cuts")
    need(is_number(many), "many")
    return tuple([(low + many, cut + many, high + many) for low, cut, high in cuts])


def merged_cuts(cuts, other):
    """The cuts, and the triples of the other ones for stretches that they do not make."""
    need(is_cuts(cuts), "cuts")
    need(is_cuts(other), "other")
    made = made_by(cuts)
    further = [(low, cut, high) for low, cut, high in other if (low, high) not in made]
    return in_sequence(list(cuts) + further)


def stretched_cuts(cuts, counts, asks):
    """The cuts for the row with each element made as many elements as its count tells."""
    need(is_cuts(cuts), "cuts")
    need(are_counts(counts) and len(counts) >= last_end(cuts), "counts")
    need(is_asks(asks) and first_unmade(cuts, asks) is None and longest_end(asks) <= len(counts), "asks")
    sums = sums_of(counts)
    triples = [(sums[low], sums[cut], sums[high]) for low, cut, high in cuts]
    stretches = sorted(set(list(asks) + list(made_by(cuts))))
    for element in covered(tuple(stretches)):
        begin = sums[element]
        triples.extend([(begin, place, place + 1) for place in range(begin + 1, sums[element + 1])])
    return in_sequence(triples)
