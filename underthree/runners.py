"""Runners: they answer the asks of a row while the elements come one by one."""

from underthree.askrows import longest_end
from underthree.brackets import needed_for
from underthree.cutkinds import need_made
from underthree.errors import NotUsable
from underthree.kinds import is_group, is_number, is_stretch
from underthree.moments import cuts_ending, held_of
from underthree.needs import need
from underthree.operations import fits, is_operation, joined


def resumed(cuts, asks, operation, state):
    """A Runner that goes on from the state of another one."""
    live = Runner(cuts, asks, operation)
    need(_is_state(operation, state), "state")
    live.go_on(state)
    return live


class Runner:
    """Joins by cuts what comes, holds what is needed later, and answers the asks."""

    def __init__(self, cuts, asks, operation):
        need_made(cuts, asks)
        need(is_operation(operation), "operation")
        self._asks = asks
        self._needed = needed_for(cuts, asks)
        self._operation = operation
        self._place = 0
        self._joins = 0
        self._values = {}

    def put(self, value):
        """The next element comes: the pairs of the asks that end now and of their answers."""
        need(fits(self._operation, value), "value")
        if self._place >= longest_end(self._asks):
            raise NotUsable("value", -2)
        self._place += 1
        place = self._place
        self._values[(place - 1, place)] = value
        for low, cut, high in cuts_ending(self._needed, place):
            one = self._values[(low, cut)]
            other = self._values[(cut, high)]
            self._values[(low, high)] = joined(self._operation, one, other)
            self._joins += 1
        answers = tuple([(ask, self._values[ask]) for ask in self._asks if ask[1] == place])
        self._values = {stretch: self._values[stretch] for stretch in held_of(self._needed, place)}
        return answers

    def held(self):
        """The pairs of the stretches held now and of their values."""
        return tuple([(stretch, self._values[stretch]) for stretch in sorted(self._values)])

    def joins(self):
        """How many joins were done."""
        return self._joins

    def place(self):
        """How many elements have come."""
        return self._place

    def state(self):
        """What a Runner needs to go on from here."""
        return (self.place(), self.joins(), self.held())

    def go_on(self, state):
        """Take over a state; nothing is checked."""
        self._place, self._joins, held = state
        self._values = {stretch: value for stretch, value in held}


def _is_state(operation, thing):
    if not is_group(thing, 3):
        return False
    place, joins, held = thing
    if not is_number(place) or not is_number(joins) or not isinstance(held, tuple):
        return False
    return all([is_group(pair, 2) and is_stretch(pair[0]) and fits(operation, pair[1]) for pair in held])
