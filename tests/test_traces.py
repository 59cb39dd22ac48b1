"""[74] traces."""

import unittest

from tests import helpers
from tests.helpers import check_parameters, check_same
from tests.programs import CUTTINGS, DUO, EDGES, LEAN, RANDOM, TWICE, due_cutting_program, due_hop_program, foreign_programs, plain_program, wild_program
from tests.programs import tiny_programs
from underthree.traces import trace_depth, trace_of
from underthree.verdicts import told_spans


def due_traces(program, many):
    """For each step the joins on which hangs what is told, and how deep they stand; the words of [74]."""
    contents, found = {}, []
    for step in range(1, many + 1):
        rows, told = program[1][(step - 1) % len(program[1])]
        contents[0] = (frozenset(), 0)
        for place, (target, *sources) in enumerate(rows):
            parts = [contents.get(source) for source in sources]
            if None in parts:
                contents[target] = None
            elif len(parts) == 1:
                contents[target] = parts[0]
            else:
                contents[target] = (parts[0][0] | parts[1][0] | {(step, place)}, 1 + max(parts[0][1], parts[1][1]))
        end = contents.get(told)
        found.append(((), 0) if end is None else (tuple(sorted(end[0])), end[1]))
    return found


class TestTraces(unittest.TestCase):
    def test_examples(self):
        check_same(self, trace_of(LEAN, 4), ((3, 0), (4, 0)))
        check_same(self, trace_depth(LEAN, 4), 2)

    def check(self, program, many):
        for step, (joins, depth) in enumerate(due_traces(program, many), 1):
            check_same(self, trace_of(program=program, step=step), joins)
            check_same(self, trace_depth(program=program, step=step), depth)

    def test_beside_the_words(self):
        for program in RANDOM + EDGES + (LEAN, TWICE, DUO):
            self.check(program, 9)
        for program in list(tiny_programs())[::3]:
            self.check(program, 4)
        for cutting in CUTTINGS:
            self.check(due_cutting_program(cutting), 2 * cutting[0])
        for program, width, _ in list(foreign_programs())[::3]:
            self.check(program, 2 * width + 2)
        self.check(wild_program(1), 30)

    def test_late_steps(self):
        for program in (LEAN, wild_program(0), due_hop_program(9, 2, (5, ((1, 4), (2, 4))))):
            joins, depth = due_traces(program, 400)[-1]
            check_same(self, (trace_of(program, 400), trace_depth(program, 400)), (joins, depth))
        grow = (2, ((((1, 0),), None),) + ((((1, 1, 0),), 1),) * 119)
        check_same(self, trace_of(grow, 120), tuple((step, 0) for step in range(2, 121)))
        check_same(self, trace_depth(grow, 120), 119)
        # What comes to very many elements hangs on few joins.
        twice = (2, ((((1, 0),), 1),) + ((((1, 1, 1),), 1),) * 119)
        check_same(self, (len(trace_of(twice, 120)), trace_depth(twice, 120)), (119, 119))

    def test_nothing(self):
        for program in ((1, (((), None),)), (3, (((), 2),)), (2, ((((1, 1),), 1),)), DUO, (3, ((((1, 0, 2),), 1),))):
            check_same(self, (trace_of(program, 1), trace_depth(program, 1)), ((), 0))
        for program in ((1, (((), 0),)), (2, ((((1, 0),), 1),)), (4, ((((1, 0), (2, 1), (3, 2)), 3),))):
            for step in (1, 2, 7):
                check_same(self, (trace_of(program, step), trace_depth(program, step)), ((), 0))

    def test_places_among_all_rows(self):
        program = (4, ((((1, 0), (2, 1, 1), (3, 2), (2, 0), (3, 3, 2), (1, 1, 2)), 3),))
        check_same(self, (trace_of(program, 1), trace_depth(program, 1)), (((1, 1), (1, 4)), 2))
        # A side that is used twice counts once, and the deeper side tells the depth.
        program = (4, ((((1, 0, 0), (2, 1, 1), (3, 0, 2), (3, 3, 1)), 3),))
        check_same(self, (trace_of(program, 1), trace_depth(program, 1)), (((1, 0), (1, 1), (1, 2), (1, 3)), 4))

    def test_told_at_an_asked_step_hangs_on_late_rows(self):
        """[81], for programs right for ever."""
        for program, width, hop in list(foreign_programs()):
            for step in range(width, width + 3 * hop + 4, hop):
                self.assertTrue(all(at > step - width for at, _ in trace_of(program, step)))
                check_same(self, told_spans(program, step)[-1], ((step - width, step),))
        check_same(self, trace_of(plain_program(3), 5), ((5, 4), (5, 5)))

    def test_parameters(self):
        for function in (trace_of, trace_depth):
            check_parameters(self, function, {"program": LEAN, "step": 1}, {"program": helpers.NOT_PROGRAMS, "step": helpers.NOT_POSITIVE})


if __name__ == "__main__":
    unittest.main()
