"""The walk's cuts of a queue's row as an object."""

from underthree.brackets import bracket_line
from underthree.cutplans import plan_by
from underthree.making import cuts_by
from underthree.moments import held_at
from underthree.runners import Runner


class Cuts:
    """The row, and the cuts that the walk makes of it."""

    def __init__(self, queue):
        self._cuts = cuts_by(queue)
        self._row = queue

    def told(self):
        """The cuts."""
        return self._cuts

    def plan(self):
        """The plan by the cuts, for the row."""
        return plan_by(self._cuts, self._row)

    def many(self):
        """How many triples there are."""
        return len(self._cuts)

    def held(self, place):
        """The stretches held at the moment."""
        return held_at(self._cuts, self._row, place)

    def bracket(self, stretch):
        """How the stretch is made."""
        return bracket_line(self._cuts, stretch)

    def runner(self, operation):
        """A new Runner."""
        return Runner(self._cuts, self._row, operation)

    def __eq__(self, other):
        return isinstance(other, Cuts) and self._row == other._row
