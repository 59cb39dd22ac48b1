"""Rows of asks and histories as lines, there and back."""

from underthree.errors import InvalidText
from underthree.figures import end_at, number_in, part_at, stretch_in, unmarked
from underthree.histories import is_history
from underthree.kinds import is_asks
from underthree.needs import need

NONE = "-"


def asks_line(asks):
    """The asks with single blanks between."""
    need(is_asks(asks), "asks")
    if len(asks) == 0:
        return NONE
    return " ".join([f"{low}-{high}" for low, high in asks])


def history_line(history):
    """The events, each but the last one with a mark behind it."""
    need(is_history(history), "history")
    if len(history) == 0:
        return NONE
    return "; ".join([" ".join([str(part) for part in event]) for event in history])


def read_asks(text):
    """The row of asks whose line is the text."""
    need(isinstance(text, str), "text")
    parts = text.split(" ")
    if parts[0] == NONE:
        end_at(parts, 1)
        return ()
    asks = []
    for at, part in enumerate(parts):
        ask = stretch_in(part)
        if ask is None or (at > 0 and ask <= asks[-1]):
            raise InvalidText(0, at)
        asks.append(ask)
    return tuple(asks)


def read_history(text):
    """The history whose line is the text."""
    need(isinstance(text, str), "text")
    parts = text.split(" ")
    if parts[0] == NONE:
        end_at(parts, 1)
        return ()
    events = []
    inside = 0
    at = 0
    mark = ";"
    while mark == ";":
        event, mark = _event_at(parts, at, inside)
        events.append(event)
        at += len(event)
        if event[0] == "put":
            inside += event[1]
        elif event[0] == "drop":
            inside -= event[1]
    end_at(parts, at)
    return tuple(events)


def _event_at(parts, at, inside):
    word, mark = unmarked(part_at(parts, at), ";")
    if word == "ask":
        return (("ask",), mark)
    # Nothing can go while nothing is in, so a drop can't even begin.
    if mark != "" or not (word == "put" or (word == "drop" and inside > 0)):
        raise InvalidText(0, at)
    figures, mark = unmarked(part_at(parts, at + 1), ";")
    many = number_in(figures)
    if many is None or many == 0 or (word == "drop" and many > inside):
        raise InvalidText(0, at + 1)
    return ((word, many), mark)
