"""[63] programs and their checker, [64] what they tell, [72] programs as objects."""

import unittest
from fractions import Fraction

from tests import helpers
from tests.helpers import check_paper, check_parameters, check_same, check_unusable, same_kind
from tests.programs import CUTTINGS, DUO, EDGES, LEAN, RANDOM, TWICE, begun, due_cutting_program, due_round, fold_word, words_told
from tests.programs import tiny_programs, wild_program
from tests.test_operations import SOME, sample
from underthree.keepers import cutting_program
from underthree.operations import join_two
from underthree.programclasses import Program
from underthree.programkinds import is_program, lets_program
from underthree.programruns import begun_at, join_rows, joins_done, run_program

PAIRS = due_cutting_program((3, ()))
WILD = tuple(wild_program(seed) for seed in range(2))
TINY = tuple(tiny_programs())
SUM = ("sum", 10)


def fault_of(thing):
    """The first fault by the words of [63], None for a program."""
    if type(thing) is not tuple or len(thing) != 2:
        return ("shape", -1)
    registers, phases = thing
    if type(registers) is not int or registers < 1:
        return ("registers", -1)
    if type(phases) is not tuple or not phases:
        return ("phases", -1)
    known = list(range(min(registers, 100)))
    for at, phase in enumerate(phases):
        if type(phase) is not tuple or len(phase) != 2 or type(phase[0]) is not tuple:
            return ("phase", at)
        for row in phase[0]:
            if type(row) is not tuple or len(row) not in (2, 3) or any(type(one) is not int or one not in known for one in row) or row[0] == 0:
                return ("row", at)
        if phase[1] is not None and (type(phase[1]) is not int or phase[1] not in known):
            return ("told", at)
    return None


class TestKinds(unittest.TestCase):
    def test_programs(self):
        for program in EDGES + RANDOM + WILD + (LEAN, TWICE, DUO):
            self.assertIs(is_program(program), True)
            check_same(self, lets_program(program), len(program[1]))
        for cutting in CUTTINGS:
            check_same(self, lets_program(due_cutting_program(cutting)), cutting[0])
        check_same(self, lets_program((10 ** 60, ((((10 ** 60 - 1, 0),), 10 ** 59),))), 1)
        check_same(self, lets_program((1, (((), None),) * 5000)), 5000)

    def test_no_programs(self):
        for thing in helpers.NOT_PROGRAMS:
            self.assertIs(is_program(thing), False, thing)
            check_paper(self, *fault_of(thing), lets_program, thing)

    def test_each_word(self):
        good, none = ((), 0), ((), None)
        for thing, word, at in (
            (None, "shape", -1), ((2,), "shape", -1), ([2, (good,)], "shape", -1), ((0, ()), "registers", -1), ((True, ()), "registers", -1),
            ((2, ()), "phases", -1), ((2, [good]), "phases", -1), ((2, (good, none, ((),))), "phase", 2), ((2, (good, ([], 0))), "phase", 1),
            ((2, (good, ([], 7))), "phase", 1), ((2, (good, (((0, 1),), 7))), "row", 1), ((2, (none, (((1, 0), (1, 2)), None))), "row", 1),
            ((2, ((((1, 0, 1, 0),), 0),)), "row", 0), ((2, ((((1, True),), 0),)), "row", 0), ((2, (good, ((), 2), None)), "told", 1),
            ((2, (((), False),)), "told", 0), ((2, (((), -1),)), "told", 0), ((10 ** 60, ((((10 ** 60, 0),), 0),)), "row", 0),
            ((10 ** 60, (((), 10 ** 60),)), "told", 0), ((1, ((((0, 0),), 0),)), "row", 0), ((3, ((((1, 0), [1, 0]), 0),)), "row", 0),
            # All of a phase is looked at before the next one, and its rows before what it tells.
            ((2, (((), 5), ((), 5, 5))), "told", 0), ((2, ((((1, 5),), 5), None)), "row", 0), ((2, (None, (((1, 5),), 5))), "phase", 0),
            ((0, None), "registers", -1), ((2, None), "phases", -1),
        ):
            self.assertEqual(fault_of(thing), (word, at))
            check_paper(self, word, at, lets_program, thing)
            self.assertIs(is_program(thing), False)


def feed_for(operation, many):
    values = sample(operation)
    return tuple(values[(3 * at + 1) % len(values)] for at in range(many))



class TestRuns(unittest.TestCase):
    def test_example(self):
        check_same(self, cutting_program((3, ())), PAIRS)
        check_same(self, run_program(PAIRS, SUM, (3, 4, 5)), ((), (7,), (9,)))
        check_same(self, (join_rows(PAIRS, 4), joins_done(PAIRS, 4)), (4, 3))

    def check_run(self, program, operation, many):
        feed = feed_for(operation, many)
        words = words_told(program, many)
        got = run_program(program, operation, feed)
        self.assertIs(type(got), tuple)
        self.assertEqual(len(got), many)
        for entry, word in zip(got, words):
            if word is not None:
                check_same(self, entry, () if word == () else (fold_word(operation, feed, word, join_two),))

    def test_beside_the_words(self):
        for at, program in enumerate(RANDOM + EDGES):
            for turn in range(3):
                self.check_run(program, SOME[(at + 7 * turn) % len(SOME)], 4 + at % 9)
        for operation in SOME:
            for program in (LEAN, DUO, RANDOM[3], RANDOM[11]):
                self.check_run(program, operation, 9)
        for program in TINY[::5]:
            self.check_run(program, ("brackets",), 5)

    def test_as_large_as_may_be(self):
        for program in WILD:
            self.check_run(program, ("maps", 3), 120)
            self.check_run(program, ("spans",), 120)

    def test_nought_is_told(self):
        twice = (2, ((((1, 0, 0),), 1),))
        check_same(self, run_program(twice, ("spans",), ((0, 1), None)), ((None,), (None,)))
        check_same(self, run_program((1, (((), 0),)), ("spans",), (None, (0, 1))), ((None,), ((0, 1),)))
        check_same(self, run_program((2, (((), 1),)), ("spans",), (None,)), ((),))
        check_same(self, run_program((1, (((), None),)), SUM, (1, 2)), ((), ()))

    def test_without_values(self):
        for program in EDGES:
            check_same(self, run_program(program, SUM, ()), ())

    def test_own_target_and_copies_of_copies(self):
        grow = (2, ((((1, 0),), None), (((1, 1, 0),), 1)))
        check_same(self, run_program(grow, ("last",), (7, 8, 9, 5)), ((), (8,), (), (5,)))
        check_same(self, run_program((4, ((((1, 0), (2, 1), (3, 2)), 3),)), SUM, (4, 6)), ((4,), (6,)))
        check_same(self, run_program((4, ((((3, 2), (2, 1), (1, 0)), 3),)), SUM, (4, 6, 7, 8)), ((), (), (4,), (6,)))
        # A copy of what has nothing takes away what was there; so does a join with it.
        check_same(self, run_program((3, ((((1, 0), (1, 2)), 1),)), SUM, (4,)), ((),))
        check_same(self, run_program((3, ((((1, 0), (1, 0, 2)), 1),)), SUM, (4,)), ((),))
        check_same(self, run_program((3, ((((1, 0), (1, 2, 0)), 1),)), SUM, (4,)), ((),))
        check_same(self, run_program((3, (((), 1), (((1, 0),), 1), ((), 1))), SUM, (4, 5, 6, 7)), ((), (5,), (5,), (5,)))

    def test_join_rows(self):
        for program in RANDOM + EDGES + (PAIRS,):
            counts = [len([row for row in rows if len(row) == 3]) for rows, _ in program[1]]
            for many in (0, 1, 2, 3, 5, 17):
                check_same(self, join_rows(program, many), sum(counts[at % len(counts)] for at in range(many)))
            rounds, rest = divmod(10 ** 30, len(counts))
            check_same(self, join_rows(program, 10 ** 30), rounds * sum(counts) + sum(counts[:rest]))
        check_same(self, join_rows(LEAN, 10 ** 30 - 1), 15 * 10 ** 29 - 1)

    def test_joins_done(self):
        for program in RANDOM + EDGES + TINY[::9]:
            for many in (0, 1, 2, 3, 7):
                check_same(self, joins_done(program, many), self.filled_joins(program, many))
        for program in WILD + (LEAN, TWICE):
            check_same(self, joins_done(program, 400), self.filled_joins(program, 400))
        check_same(self, [joins_done(LEAN, many) for many in range(6)], [0, 0, 0, 2, 3, 5])

    def filled_joins(self, program, many):
        filled, total = set(), 0
        for at in range(many):
            filled.add(0)
            for target, *sources in program[1][at % len(program[1])][0]:
                whole = all(source in filled for source in sources)
                total += whole and len(sources) == 2
                filled = filled | {target} if whole else filled - {target}
        return total

    def test_begun_at(self):
        for program in RANDOM[::4] + EDGES + (LEAN,):
            for phase in range(len(program[1])):
                check_same(self, begun_at(program, phase), begun(program, phase))
        check_same(self, begun_at(LEAN, 1)[1], (LEAN[1][1], LEAN[1][0]))

    def test_parameters(self):
        good = {"program": LEAN, "operation": SUM, "feed": (1, 2)}
        not_feeds = helpers.NOT_TUPLES + ((10,), (1, -1), (True,), (1, "2"), ((1,),), [1, 2])
        check_parameters(self, run_program, good, {"program": helpers.NOT_PROGRAMS, "operation": helpers.NOT_OPERATIONS, "feed": not_feeds})
        for function in (join_rows, joins_done):
            check_parameters(self, function, {"program": LEAN, "many": 0}, {"program": helpers.NOT_PROGRAMS, "many": helpers.NOT_NUMBERS})
        check_parameters(self, begun_at, {"program": LEAN, "phase": 1},
                         {"program": helpers.NOT_PROGRAMS, "phase": helpers.NOT_NUMBERS + (2, 3, 10 ** 30)})


class TestProgram(unittest.TestCase):
    def test_methods(self):
        for program in RANDOM[::5] + EDGES:
            registers, phases = program
            live = Program(registers, *phases)
            check_same(self, live.told(), program)
            feed = (3, 1, 4, 1, 5)
            check_same(self, live.run(operation=SUM, feed=feed), run_program(program, SUM, feed))
            for hop in (1, 2, 3):
                mean = Fraction(join_rows(program, due_round(program, hop)), due_round(program, hop) // hop)
                check_same(self, live.mean(hop=hop), (mean.numerator, mean.denominator))
            for many in (0, 3, 10 ** 30):
                check_same(self, live.rows(many=many), join_rows(program, many))
            for phase in range(len(phases)):
                self.assertIs(type(live.begun(phase=phase)), Program)
                check_same(self, live.begun(phase).told(), begun(program, phase))
            check_same(self, live.told(), program)

    def test_equality(self):
        some = (LEAN, TWICE, DUO, begun(LEAN, 1), (LEAN[0] + 1, LEAN[1]), (LEAN[0], LEAN[1] * 2), EDGES[0], EDGES[1])
        for one in some:
            for other in some:
                self.assertIs(Program(one[0], *one[1]) == Program(other[0], *other[1]), one == other)
                self.assertIs(Program(one[0], *one[1]) != Program(other[0], *other[1]), one != other)
            for thing in (one, None, one[0], list(one)):
                self.assertIs(Program(one[0], *one[1]) == thing, False)
                self.assertIs(thing == Program(one[0], *one[1]), False)

    def test_errors(self):
        for wrong in helpers.NOT_POSITIVE:
            for phases in ((), (((), None),), (None,)):
                check_unusable(self, "registers", -1, Program, wrong, *phases)
        check_unusable(self, "phases", -1, Program, 2)
        check_unusable(self, "phases", -1, Program, registers=2)
        good = (((1, 0),), 1)
        for thing in helpers.NOT_PROGRAMS:
            if type(thing) is tuple and len(thing) == 2 and same_kind(thing[0], 2) and type(thing[1]) is tuple and thing[1]:
                _, at = fault_of(thing)
                check_unusable(self, "phases", at, Program, 2, *thing[1])
                check_unusable(self, "phases", at + 2, Program, 2, good, good, *thing[1])
                check_unusable(self, "phases", at + 1, Program, 2, good, *(thing[1] + (None,)))
        check_unusable(self, "phases", 1, Program, 2, good, (((1, 2),), 1), (((1, 0),), 2))
        live = Program(LEAN[0], *LEAN[1])
        not_feeds = (None, [1], (10,), (True,))
        check_parameters(self, live.run, {"operation": SUM, "feed": ()}, {"operation": helpers.NOT_OPERATIONS, "feed": not_feeds})
        check_parameters(self, live.mean, {"hop": 1}, {"hop": helpers.NOT_POSITIVE})
        check_parameters(self, live.rows, {"many": 0}, {"many": helpers.NOT_NUMBERS})
        check_parameters(self, live.begun, {"phase": 1}, {"phase": helpers.NOT_NUMBERS + (2, 7)})


if __name__ == "__main__":
    unittest.main()
