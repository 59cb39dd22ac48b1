"""Events and logs as lines, there and back, and a desk that reads lines and answers in lines."""

from underthree.asktexts import asks_line, read_asks
from underthree.cuttinglines import cutting_line, read_cutting
from underthree.errors import InvalidRow, InvalidText
from underthree.figures import end_at, number_in, part_at
from underthree.house import House
from underthree.liveevents import is_event, is_keeper, is_key, is_log
from underthree.needs import need
from underthree.operations import fits, is_operation
from underthree.opertexts import read_value, value_line

NONE = "-"
NOTHING_IN = "none"
DONE = "done"


def event_line(operation, event):
    """The word of the event, the key, and what else it tells."""
    need(is_operation(operation), "operation")
    need(is_event(event) and _has_value(operation, event), "event")
    return _line_of(operation, event)


def log_text(operation, log):
    """The lines of the events of the log."""
    need(is_operation(operation), "operation")
    need(is_log(log) and all([_has_value(operation, event) for event in log]), "log")
    return "\n".join([_line_of(operation, event) for event in log])


def read_event(operation, text):
    """The event whose line is the text."""
    need(is_operation(operation), "operation")
    need(isinstance(text, str), "text")
    return _event_in(operation, text.split(" "))


def read_log(operation, text):
    """The log whose lines are those of the text."""
    need(is_operation(operation), "operation")
    need(isinstance(text, str), "text")
    events = []
    lines = text.split("\n") if text != "" else []
    for at, line in enumerate(lines):
        try:
            events.append(_event_in(operation, line.split(" ")))
        except InvalidText as fault:
            raise InvalidText(at, fault.field)
    return tuple(events)


def desk_line(live, text):
    """Do the event of the line, or answer what the line asks of the house."""
    need(isinstance(live, House), "live")
    need(isinstance(text, str), "text")
    parts = text.split(" ")
    if parts[0] in ("keys", "report"):
        end_at(parts, 1)
        return _keys_told(live) if parts[0] == "keys" else _report_told(live)
    if parts[0] in ("joins", "least", "held"):
        return str(_number_of_key(live, parts))
    event = _event_in(live.operation(), parts)
    return _answer_told(live.operation(), event, live.go(event))


def _has_value(operation, event):
    return event[0] != "put" or fits(operation, event[2])


def _line_of(operation, event):
    parts = list(event[:2])
    if event[0] == "put":
        parts.append(value_line(operation, event[2]))
    elif event[0] == "width":
        parts.append(str(event[2]))
    elif event[0] == "open":
        parts.append(_keeper_line(event[2]))
    return " ".join(parts)


def _keeper_line(keeper):
    word = keeper[0]
    if word == "told":
        return f"{word} {asks_line(keeper[1])}"
    if word == "free":
        return f"{word} {keeper[1]}"
    if word == "hop":
        return f"{word} {keeper[1]} {keeper[2]} {cutting_line(keeper[3])}"
    return f"{word} {cutting_line(keeper[1])}"


def _event_in(operation, parts):
    word = parts[0]
    if word == "crash":
        end_at(parts, 1)
        return ("crash",)
    if word not in ("open", "put", "drop", "ask", "width", "close"):
        raise InvalidText(0, 0)
    key = part_at(parts, 1)
    if not is_key(key):
        raise InvalidText(0, 1)
    if word in ("drop", "ask", "close"):
        end_at(parts, 2)
        return (word, key)
    if word == "put":
        return (word, key, _rest_in(parts, 2, "value", operation))
    if word == "width":
        return (word, key, _last_number_in(parts, 2))
    keeper = _keeper_in(parts, 2)
    if not is_keeper(keeper):
        raise InvalidRow((word, key, keeper))
    return (word, key, keeper)


def _keeper_in(parts, at):
    word = part_at(parts, at)
    if word == "free":
        return (word, _last_number_in(parts, at + 1))
    if word == "told":
        return (word, _rest_in(parts, at + 1, "asks", None))
    if word == "hop":
        width = _number_at(parts, at + 1)
        hop = _number_at(parts, at + 2)
        return (word, width, hop, _rest_in(parts, at + 3, "cutting", None))
    if word not in ("steady", "ready"):
        raise InvalidText(0, at)
    return (word, _rest_in(parts, at + 1, "cutting", None))


def _number_at(parts, at):
    number = number_in(part_at(parts, at))
    if number is None:
        raise InvalidText(0, at)
    return number


def _last_number_in(parts, at):
    number = _number_at(parts, at)
    end_at(parts, at + 1)
    return number


def _rest_in(parts, first, what, operation):
    """What the parts from the first one on tell, which is read as a line of its own."""
    part_at(parts, first)
    try:
        return _read_as(what, operation, " ".join(parts[first:]))
    except InvalidText as fault:
        raise InvalidText(0, first + fault.field)


def _read_as(what, operation, text):
    if what == "value":
        return read_value(operation, text)
    return read_asks(text) if what == "asks" else read_cutting(text)


def _keys_told(live):
    return " ".join(live.open_keys()) if len(live.open_keys()) > 0 else NONE


def _report_told(live):
    rows = [" ".join([str(part) for part in row]) for row in live.report()]
    return "; ".join(rows) if len(rows) > 0 else NONE


def _number_of_key(live, parts):
    key = part_at(parts, 1)
    if key not in live.open_keys():
        raise InvalidText(0, 1)
    end_at(parts, 2)
    if parts[0] == "joins":
        return live.joins_by(key)
    return live.least_by(key) if parts[0] == "least" else live.held_by(key)


def _answer_told(operation, event, answer):
    if event[0] == "ask":
        return NOTHING_IN if answer is None else _pair_told(operation, answer)
    if answer is None or len(answer) == 0:
        return DONE
    return "; ".join([_pair_told(operation, pair) for pair in answer])


def _pair_told(operation, pair):
    ask, value = pair
    return f"{asks_line((ask,))} {value_line(operation, value)}"
