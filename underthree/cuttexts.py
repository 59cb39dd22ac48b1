"""Cuts as lines, there and back."""

from underthree.cutkinds import cuts_fault, is_cuts
from underthree.errors import InvalidText
from underthree.figures import end_at, number_in
from underthree.needs import need

NONE = "-"


def cuts_line(cuts):
    """The triples, each as its three places with : between."""
    need(is_cuts(cuts), "cuts")
    if len(cuts) == 0:
        return NONE
    return " ".join([f"{low}:{cut}:{high}" for low, cut, high in cuts])


def read_cuts(text):
    """The cuts whose line is the text."""
    need(isinstance(text, str), "text")
    parts = text.split(" ")
    if parts[0] == NONE:
        end_at(parts, 1)
        return ()
    # A part that tells no places is barred as a triple that holds something else than numbers.
    cuts = tuple([tuple([number_in(figures) for figures in part.split(":")]) for part in parts])
    fault = cuts_fault(cuts)
    if fault is not None:
        raise InvalidText(0, fault[1])
    return cuts
