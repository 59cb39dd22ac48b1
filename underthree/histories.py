"""Histories of a queue, and the rows of asks that they come to."""

from underthree.askrows import asks_of
from underthree.kinds import is_positive
from underthree.needs import need, need_queue, refuse


def lets_history(thing):
    """How many elements are in behind all events of thing, a history."""
    refuse(_history_fault(thing))
    return sum([_growth(event) for event in thing])


def is_history(thing):
    """Whether thing is a history."""
    return _history_fault(thing) is None


def asks_by(history):
    """The row of the history's asks that find something in."""
    need(is_history(history), "history")
    front = 0
    place = 0
    found = []
    for event in history:
        if event[0] == "put":
            place += event[1]
        elif event[0] == "drop":
            front += event[1]
        elif front < place:
            found.append((front, place))
    return asks_of(*found)


def history_by(queue):
    """The history that puts and drops only what the next ask wants."""
    need_queue(queue)
    front = 0
    place = 0
    events = []
    for low, high in queue:
        if high > place:
            events.append(("put", high - place))
        if low > front:
            events.append(("drop", low - front))
        events.append(("ask",))
        front = low
        place = high
    return tuple(events)


def _is_queue_event(thing):
    if not isinstance(thing, tuple) or len(thing) == 0:
        return False
    if thing[0] == "ask":
        return len(thing) == 1
    return thing[0] in ("put", "drop") and len(thing) == 2 and is_positive(thing[1])


def _growth(event):
    if event[0] == "ask":
        return 0
    return event[1] if event[0] == "put" else -event[1]


def _history_fault(thing):
    if not isinstance(thing, tuple):
        return ("shape", -1)
    inside = 0
    for at, event in enumerate(thing):
        if not _is_queue_event(event):
            return ("event", at)
        inside += _growth(event)
        if inside < 0:
            return ("drop", at)
    return None
