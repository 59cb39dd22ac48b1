"""A program as an object."""

from underthree.errors import NotUsable
from underthree.means import program_mean
from underthree.programkinds import program_fault
from underthree.programruns import begun_at, join_rows, run_program


class Program:
    """The program of so many registers with these phases."""

    def __init__(self, registers, *phases):
        fault = program_fault((registers, phases))
        if fault is not None:
            word, at = fault
            raise NotUsable("registers" if word == "registers" else "phases", at)
        self._program = (registers, phases)

    def told(self):
        """The program, as a pair."""
        return self._program

    def run(self, operation, feed):
        """What is told in each step."""
        return run_program(self._program, operation, feed)

    def mean(self, hop):
        """How many join rows there are for each asked step, in the mean."""
        return program_mean(self._program, hop)

    def rows(self, many):
        """How many join rows the first many steps have."""
        return join_rows(self._program, many)

    def begun(self, phase):
        """A Program that begins with the phase at this place."""
        registers, phases = begun_at(self._program, phase)
        return Program(registers, *phases)

    def __eq__(self, other):
        return isinstance(other, Program) and self._program == other._program
