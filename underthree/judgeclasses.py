"""A program beside a width and a hop as an object."""

from underthree.bests import cutting_of, mean_over
from underthree.kinds import is_positive
from underthree.means import program_mean
from underthree.needs import need
from underthree.programkinds import is_program
from underthree.unrolled import plan_of
from underthree.verdicts import right_forever, wrong_step


class Judge:
    """Tells of a program, right for ever or not, what it does for (width, hop)."""

    def __init__(self, program, width, hop):
        need(is_program(program), "program")
        need(is_positive(width), "width")
        need(is_positive(hop), "hop")
        self._program = program
        self._width = width
        self._hop = hop

    def right(self):
        """Whether the program is right for ever."""
        return right_forever(self._program, self._width, self._hop)

    def wrong(self):
        """The first asked step at which what is due is not told, None if there is none."""
        return wrong_step(self._program, self._width, self._hop)

    def mean(self):
        """How many join rows there are for each asked step, in the mean."""
        return program_mean(self._program, self._hop)

    def over(self):
        """The mean of the program, less the least mean."""
        return mean_over(self._program, self._width, self._hop)

    def best(self):
        """Whether the program is right for ever and has the least mean."""
        return self.right() and self.over() == (0, 1)

    def cutting(self):
        """The cutting of a best program with hop 1; None for others."""
        return cutting_of(self._program, self._width) if self._hop == 1 else None

    def plan(self, many):
        """The plan of the first many answers."""
        return plan_of(self._program, self._width, self._hop, many)

    def told(self):
        """The program, the width and the hop."""
        return (self._program, self._width, self._hop)

    def __eq__(self, other):
        if not isinstance(other, Judge):
            return False
        return (self._program, self._width, self._hop) == (other._program, other._width, other._hop)
