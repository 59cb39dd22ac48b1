"""Stores that keep windows of the last elements by a cutting."""

from underthree.cuttingkinds import is_cutting
from underthree.kinds import is_group, is_number, is_stretch
from underthree.needs import need
from underthree.neighbours import neighbour_lots
from underthree.operations import fits, is_operation
from underthree.windows import held_in, made_from, put_in


def steady_from(cutting, operation, state):
    """A Steady that goes on from the state of another one."""
    store = Steady(cutting, operation)
    need(_is_state(cutting, operation, state), "state")
    store.go_on(state)
    return store


class Steady:
    """Answers, when an element comes, the ask of the last ones, one less than the cutting has corners."""

    def __init__(self, cutting, operation):
        need(is_cutting(cutting), "cutting")
        need(is_operation(operation), "operation")
        self._window = _window_of(cutting)
        self._operation = operation
        self._place = 0
        self._joins = 0
        self._made = {}

    def put(self, value):
        """The next element comes: the pair of the ask that ends now and of its answer, () without one."""
        need(fits(self._operation, value), "value")
        answers, joins = put_in(self._window, self._operation, self._place, self._made, value)
        self._place += 1
        self._joins += joins
        return answers[0] if len(answers) > 0 else ()

    def held(self):
        """The pairs of the stretches held now and of their values."""
        return held_in(self._made)

    def joins(self):
        """How many joins were done."""
        return self._joins

    def place(self):
        """How many elements have come."""
        return self._place

    def state(self):
        """What a Steady needs to go on from here."""
        return (self.place(), self.joins(), self.held())

    def go_on(self, state):
        """Take over a state; nothing is checked."""
        self._place, self._joins, held = state
        self._made = made_from(held)


def _window_of(cutting):
    return (cutting[0] - 1, 1, cutting)


def _is_state(cutting, operation, thing):
    if not is_group(thing, 3):
        return False
    place, joins, held = thing
    if not is_number(place) or not is_number(joins) or not isinstance(held, tuple):
        return False
    if not all([is_group(pair, 2) and is_stretch(pair[0]) and fits(operation, pair[1]) for pair in held]):
        return False
    return [pair[0] for pair in held] == _stretches_at(cutting, place)


def _stretches_at(cutting, place):
    corners = cutting[0]
    lots = neighbour_lots(cutting)
    stretches = []
    # The width is one less than there are corners; an ask that ends at the place is told and gone.
    for begin in range(max(0, place - corners + 2), place):
        ends = [end for end in range(begin + 1, place + 1) if end % corners in lots[begin % corners]]
        stretches.append((begin, ends[-1]))
    return stretches
