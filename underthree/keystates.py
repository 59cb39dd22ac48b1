"""The states of keys: the first one, and what they become as elements come."""

from underthree.askrows import longest_end
from underthree.kinds import is_group, is_number
from underthree.liveevents import is_keeper
from underthree.making import cuts_by
from underthree.needs import need
from underthree.operations import fits, is_operation
from underthree.runners import resumed
from underthree.windows import held_in, made_from, put_in


def key_begun(keeper):
    """The first state of a key with this keeper."""
    need(is_keeper(keeper), "keeper")
    return (0, 0 if keeper[0] == "free" else None, None, ())


def key_full(keeper, state):
    """Whether no further element may come, as all asks that were told are answered."""
    need(is_keeper(keeper), "keeper")
    need(is_state(keeper, state), "state")
    return has_all(keeper, state)


def key_put(keeper, state, operation, value):
    """The state when one more element is in, the answers of the asks that end now, and how many joins were done."""
    need(is_keeper(keeper) and keeper[0] != "free", "keeper")
    need(is_state(keeper, state) and not has_all(keeper, state), "state")
    need(is_operation(operation), "operation")
    need(fits(operation, value), "value")
    place, front, pole, held = state
    if keeper[0] == "told":
        live = resumed(cuts_by(keeper[1]), keeper[1], operation, (place, 0, held))
        answers = live.put(value)
        return ((live.place(), front, pole, live.held()), answers, live.joins())
    made = made_from(held)
    answers, joins = put_in(_window_of(keeper), operation, place, made, value)
    return ((place + 1, front, pole, held_in(made)), answers, joins)


def is_state(keeper, thing):
    """Whether thing has the form of a state of the keeper; what is held is not looked at."""
    if keeper[0] == "free":
        return is_free_state(thing)
    return _has_form(thing) and thing[1] is None and thing[2] is None


def is_free_state(thing):
    """Whether thing has the form of a state of a free keeper."""
    if not _has_form(thing):
        return False
    place, front, pole, held = thing
    return is_number(front) and front <= place and (pole is None or (is_number(pole) and pole <= place))


def has_all(keeper, state):
    """What key_full returns; nothing is checked."""
    return keeper[0] == "told" and state[0] >= longest_end(keeper[1])


def _has_form(thing):
    return is_group(thing, 4) and is_number(thing[0]) and isinstance(thing[3], tuple)


def _window_of(keeper):
    if keeper[0] == "hop":
        return keeper[1:]
    cutting = keeper[1]
    # An answer that is ready early has one element behind what the cutting joins.
    width = cutting[0] if keeper[0] == "ready" else cutting[0] - 1
    return (width, 1, cutting)
