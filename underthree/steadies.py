"""Queue's rows of steady windows, of calendars, of elements with times."""

from underthree.askrows import asks_of
from underthree.kinds import is_number, is_positive
from underthree.needs import need


def steady_asks(width, hop, many):
    """The first many asks (width, hop)."""
    need(is_positive(width), "width")
    need(is_positive(hop), "hop")
    need(is_number(many), "many")
    return tuple([(at * hop, at * hop + width) for at in range(many)])


def calendar_asks(widths):
    """An ask that ends behind each element, as wide as the widths up to there let it be."""
    need(isinstance(widths, tuple) and all([is_positive(width) for width in widths]), "widths")
    row = []
    begin = 0
    for at, width in enumerate(widths):
        begin = max(begin, at + 1 - width)
        row.append((begin, at + 1))
    return tuple(row)


def timed_asks(times, length, moments):
    """For each moment an ask of the elements that came within the length up to it, if any did."""
    need(_are_times(times), "times")
    need(is_positive(length), "length")
    need(_are_numbers(moments), "moments")
    found = []
    for moment in moments:
        # The times never fall, so those that are old and those that are due stand ahead of the others.
        low = len([time for time in times if time <= moment - length])
        high = len([time for time in times if time <= moment])
        if low < high:
            found.append((low, high))
    return asks_of(*found)


def _are_numbers(thing):
    return isinstance(thing, tuple) and all([is_number(value) for value in thing])


def _are_times(thing):
    return _are_numbers(thing) and all([one <= other for one, other in zip(thing, thing[1:])])
