"""Strikes and strike papers as lines, there and back."""

from underthree.errors import InvalidText
from underthree.figures import end_at, number_in, stretch_in
from underthree.kinds import is_group, is_number
from underthree.needs import need
from underthree.strikekinds import is_strike

NONE = "-"


def strike_line(strike):
    """The element, or the two ends of the ask."""
    need(is_strike(strike), "strike")
    return _strike_told(strike)


def paper_line(paper):
    """The entries of the paper, each a strike and its number."""
    need(_is_paper(paper), "paper")
    if len(paper) == 0:
        return NONE
    return " ".join([f"{_strike_told(strike)}:{number}" for strike, number in paper])


def read_strike(text):
    """The strike whose line is the text."""
    need(isinstance(text, str), "text")
    parts = text.split(" ")
    strike = _strike_in(parts[0])
    if strike is None:
        raise InvalidText(0, 0)
    end_at(parts, 1)
    return strike


def read_paper(text):
    """The paper whose line is the text."""
    need(isinstance(text, str), "text")
    parts = text.split(" ")
    if parts[0] == NONE:
        end_at(parts, 1)
        return ()
    entries = []
    for at, part in enumerate(parts):
        head, _, figures = part.partition(":")
        strike = _strike_in(head)
        number = number_in(figures)
        if strike is None or number is None:
            raise InvalidText(0, at)
        entries.append((strike, number))
    return tuple(entries)


def _is_paper(thing):
    return isinstance(thing, tuple) and all([_is_entry(entry) for entry in thing])


def _is_entry(thing):
    return is_group(thing, 2) and is_strike(thing[0]) and is_number(thing[1])


def _strike_told(strike):
    return "-".join([str(place) for place in strike[1:]])


def _strike_in(part):
    element = number_in(part)
    if element is not None:
        return ("element", element)
    ask = stretch_in(part)
    return None if ask is None else ("ask",) + ask
