"""Why an event is barred."""

from underthree.keystates import has_all, is_state
from underthree.kinds import is_group, is_rising
from underthree.liveevents import is_event, is_keeper, is_key
from underthree.needs import need
from underthree.operations import fits, is_operation


def reason_of(operation, rows, event):
    """The first reason for which the event is barred while the keys of the rows are open; None without one."""
    need(is_operation(operation), "operation")
    need(_are_rows(rows), "rows")
    return reason_for(operation, rows, event)


def reason_for(operation, rows, event):
    """What reason_of returns; nothing is checked."""
    if not is_event(event):
        return "shape"
    if event[0] == "crash":
        return None
    own = [row for row in rows if row[0] == event[1]]
    if event[0] == "open":
        return "open" if len(own) > 0 else None
    if len(own) == 0:
        return "key"
    key, keeper, state = own[0]
    if event[0] == "put":
        return _reason_to_put(operation, keeper, state, event[2])
    if event[0] == "close":
        return None
    if keeper[0] != "free":
        return "kind"
    return "none" if event[0] == "drop" and state[0] == state[1] else None


def _reason_to_put(operation, keeper, state, value):
    if not fits(operation, value):
        return "value"
    return "full" if has_all(keeper, state) else None


def _are_rows(thing):
    if not isinstance(thing, tuple) or not all([_is_row(row) for row in thing]):
        return False
    return is_rising([row[0] for row in thing])


def _is_row(thing):
    return is_group(thing, 3) and is_key(thing[0]) and is_keeper(thing[1]) and is_state(thing[1], thing[2])
