"""What are keys, keepers, events and logs."""

from underthree.cuttingkinds import is_cutting
from underthree.kinds import is_number, is_positive, is_queue

LETTERS = "abcdefghijklmnopqrstuvwxyz"


def is_key(thing):
    """Whether thing is a string of one to eight letters a to z."""
    return isinstance(thing, str) and 1 <= len(thing) <= 8 and all([letter in LETTERS for letter in thing])


def is_keeper(thing):
    """Whether thing is a keeper of one of the five kinds."""
    if not isinstance(thing, tuple) or len(thing) < 2:
        return False
    word = thing[0]
    if word == "hop":
        return len(thing) == 4 and _are_hop(thing[1], thing[2], thing[3])
    if len(thing) != 2:
        return False
    if word == "free":
        return is_number(thing[1])
    if word == "told":
        return is_queue(thing[1])
    return word in ("steady", "ready") and is_cutting(thing[1])


def is_event(thing):
    """Whether thing is an event, whatever value is put."""
    if not isinstance(thing, tuple) or len(thing) == 0:
        return False
    word = thing[0]
    if word == "crash":
        return len(thing) == 1
    if len(thing) < 2 or not is_key(thing[1]):
        return False
    if word in ("drop", "ask", "close"):
        return len(thing) == 2
    if len(thing) != 3:
        return False
    if word == "open":
        return is_keeper(thing[2])
    return word == "put" or (word == "width" and is_number(thing[2]))


def is_log(thing):
    """Whether thing is a tuple of events."""
    return isinstance(thing, tuple) and all([is_event(event) for event in thing])


def _are_hop(width, hop, cutting):
    if not is_positive(width) or not is_positive(hop) or hop > width:
        return False
    return is_cutting(cutting) and cutting[0] == width // hop + 1
