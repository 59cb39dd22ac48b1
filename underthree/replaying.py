"""Logs: done again, cut, with a crash put in."""

from underthree.house import House
from underthree.kinds import is_number
from underthree.liveevents import is_key, is_log
from underthree.needs import need
from underthree.operations import is_operation


def replayed(operation, log):
    """A House that has done the log."""
    _need_log(operation, log)
    live = House(operation)
    live.do_all(log)
    return live


def cut_log(log, many):
    """The first many events, and the rest."""
    need(is_log(log), "log")
    need(is_number(many) and many <= len(log), "many")
    return (log[:many], log[many:])


def crashed_log(log, at):
    """The log with a crash put in ahead of this place."""
    need(is_log(log), "log")
    need(is_number(at) and at <= len(log), "at")
    return log[:at] + (("crash",),) + log[at:]


def answers_by(operation, log):
    """What is answered to each event."""
    _need_log(operation, log)
    live = House(operation)
    return live.do_all(log)


def joins_along(operation, log, key):
    """How many joins were done for the key behind each event, None while it is not open."""
    _need_log(operation, log)
    need(is_key(key), "key")
    live = House(operation)
    counts = []
    for event in log:
        live.go(event)
        counts.append(live.joins_by(key) if key in live.open_keys() else None)
    return tuple(counts)


def _need_log(operation, log):
    need(is_operation(operation), "operation")
    need(is_log(log), "log")
