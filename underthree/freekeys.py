"""Free keys, which are asked for all that is in: the turning keeper, step by step."""

from underthree.folds import folded
from underthree.keystates import is_free_state
from underthree.kinds import is_number
from underthree.liveevents import is_keeper
from underthree.needs import need
from underthree.operations import fits, is_operation, joined


def free_put(keeper, state, operation, value):
    """The state when one more element is in, and no more than the keeper's width."""
    need(is_keeper(keeper) and keeper[0] == "free", "keeper")
    need(is_free_state(state), "state")
    need(is_operation(operation), "operation")
    need(fits(operation, value), "value")
    place, front, pole, held = state
    return _narrowed((place + 1, front, pole, held + (((place, place + 1), value),)), keeper[1])


def free_drop(state):
    """The state when the first element has gone."""
    need(is_free_state(state) and state[1] < state[0], "state")
    return _without(state, 1)


def free_width(state, width):
    """The state when so many first elements have gone that at most width are in."""
    need(is_free_state(state), "state")
    need(is_number(width), "width")
    return _narrowed(state, width)


def free_ask(state, operation):
    """The state behind an ask for all that is in, the ask with its answer, and how many joins were done."""
    need(is_free_state(state), "state")
    need(is_operation(operation), "operation")
    place, front, pole, held = state
    if front == place:
        return (state, None, 0)
    asked, joins = _turned(state, operation) if pole is None else _reached(state, operation)
    answer = asked[3][0][1]
    if pole is not None and front < pole < place:
        # What lies on both sides of the pole is joined for this answer alone.
        answer = joined(operation, answer, asked[3][pole - front][1])
        joins += 1
    return (asked, ((front, place), answer), joins)


def _without(state, many):
    place, front, pole, held = state
    front += many
    if pole is not None and front > pole:
        pole = None
    return (place, front, pole, held[many:])


def _narrowed(state, width):
    inside = state[0] - state[1]
    return _without(state, inside - width) if 0 < width < inside else state


def _turned(state, operation):
    """The state with the pole at its place, each stretch up to there made from the last one back; and the joins."""
    place, front, pole, held = state
    turned = []
    value = None
    for (low, high), own in reversed(held):
        value = own if high == place else joined(operation, own, value)
        turned.append(((low, place), value))
    return ((place, front, place, tuple(reversed(turned))), place - front - 1)


def _reached(state, operation):
    """The state with what begins at the pole made up to its place; and the joins."""
    place, front, pole, held = state
    if pole == place:
        return (state, 0)
    at = pole - front
    top = held[at][0][1]
    values = [held[at][1]] + [pair[1] for pair in held[top - front:]]
    grown = held[:at] + (((pole, place), folded(operation, values)),) + held[at + 1:]
    return ((place, front, pole, grown), place - top)
