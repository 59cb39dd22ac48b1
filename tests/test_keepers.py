"""[66] and [67] the programs of cuttings, what [69] says of them, and of [11] the guarantees (G10) and (G11)."""

import unittest
from fractions import Fraction
from itertools import product
from math import gcd

from tests import helpers
from tests.cuttings import EDGES, LONG, SMALL, all_cuttings, due_prices, stretches_of
from tests.helpers import FAN5, HEX, check_parameters, check_same
from tests.programs import (
    CUTTINGS, due_cutting_program, due_hop_program, due_ready_program, due_shifted_program, due_wrong, tiny_programs, words_told,
)
from underthree.chordsums import first_joins
from underthree.hopkeepers import hop_program
from underthree.keepers import cutting_program
from underthree.means import hop_first, least_mean, program_mean, ready_first, ready_mean
from underthree.programkinds import is_program
from underthree.programruns import join_rows, joins_done, run_program
from underthree.programtexts import program_line
from underthree.readies import has_phases, least_phases, ready_program, shifted_program
from underthree.shapes import fan
from underthree.verdicts import right_forever

HOPS = tuple((width, hop) for width in range(1, 14) for hop in range(1, width + 1))


def hop_cases():
    for width, hop in HOPS:
        corners = width // hop + 1
        some = all_cuttings(corners) if corners < 7 else (fan(corners, corners - 1), fan(corners, 2))
        for cutting in some[:6]:
            yield width, hop, cutting


class TestPrograms(unittest.TestCase):
    def test_examples(self):
        check_same(self, program_line(cutting_program((3, ()))), "4; 1 0, 3 3 1: 3; 2 0, 1 1 2: 1; 3 0, 2 2 3: 2")
        check_same(self, program_line(hop_program(3, 2, (2, ()))), "4; 1 0, 3 2 1: 3; 1 1 0: -; 2 0, 3 1 2: 3; 2 2 0: -")

    def test_by_definition(self):
        for cutting in SMALL + LONG + EDGES:
            check_same(self, cutting_program(cutting=cutting), due_cutting_program(cutting))
            check_same(self, shifted_program(cutting=cutting), due_shifted_program(cutting))
            check_same(self, ready_program(cutting=cutting), due_ready_program(cutting))
        for width, hop, cutting in hop_cases():
            check_same(self, hop_program(width=width, hop=hop, cutting=cutting), due_hop_program(width, hop, cutting))
        for width, hop in ((40, 1), (40, 3), (39, 20), (40, 40), (37, 36)):
            cutting = fan(width // hop + 1, 0)
            check_same(self, hop_program(width, hop, cutting), due_hop_program(width, hop, cutting))

    def test_few_corners(self):
        check_same(self, cutting_program((2, ())), (3, ((((1, 0),), 1), (((2, 0),), 2))))
        check_same(self, shifted_program((2, ())), (2, ((((1, 0),), 1),)))
        check_same(self, shifted_program((3, ())), (3, ((((2, 1), (1, 0), (2, 2, 1)), 2),)))
        check_same(self, ready_program((2, ())), (4, ((((3, 2, 0), (1, 0)), 3), (((3, 1, 0), (2, 0)), 3))))
        check_same(self, hop_program(1, 1, (2, ())), (3, ((((1, 0),), 1), (((2, 0),), 2))))
        check_same(self, hop_program(2, 2, (2, ())), (3, ((((1, 0),), None), (((1, 1, 0),), 1), (((2, 0),), None), (((2, 2, 0),), 2))))

    def test_they_are_programs(self):
        for cutting in LONG + EDGES + (FAN5, HEX):
            for make in (cutting_program, shifted_program, ready_program):
                self.assertIs(is_program(make(cutting)), True)

    def test_phases(self):
        for width in range(1, 41):
            corners = width + 1
            due = [phases for phases in range(1, 2 * corners + 3) if corners // gcd(corners, phases) <= 3]
            check_same(self, [phases for phases in range(1, 2 * corners + 3) if has_phases(width, phases)], due)
            check_same(self, least_phases(width=width), due[0])
            for phases in (10 ** 30, 10 ** 30 - 1, 10 ** 30 - 10 ** 30 % corners):
                self.assertIs(has_phases(width=width, phases=phases), corners // gcd(corners, phases) <= 3)
        check_same(self, [least_phases(1), least_phases(2), least_phases(3), least_phases(4), least_phases(5)], [1, 1, 2, 5, 2])
        # So many phases as has_phases tells do: those of a cutting, told again as often as needed.
        for corners in range(2, 8):
            turns = {len(shifted_program(cutting)[1]) for cutting in all_cuttings(corners)}
            for phases in range(1, 15):
                self.assertIs(has_phases(corners - 1, phases), any(phases % turn == 0 for turn in turns))

    def test_parameters(self):
        for make in (cutting_program, shifted_program, ready_program):
            check_parameters(self, make, {"cutting": (2, ())}, {"cutting": helpers.NOT_CUTTINGS})
        check_parameters(self, least_phases, {"width": 1}, {"width": helpers.NOT_POSITIVE})
        check_parameters(self, has_phases, {"width": 1, "phases": 1}, {"width": helpers.NOT_POSITIVE, "phases": helpers.NOT_POSITIVE})
        bad = {"width": helpers.NOT_POSITIVE, "hop": helpers.NOT_POSITIVE + (6, 7, 10 ** 30), "cutting": helpers.NOT_CUTTINGS + ((2, ()), FAN5, HEX)}
        check_parameters(self, hop_program, {"width": 5, "hop": 2, "cutting": (3, ())}, bad)


class TestConsequences(unittest.TestCase):
    """[69], step by step beside the last elements."""

    def check_right(self, program, width, hop):
        last = width + 2 * hop * len(program[1])
        told = words_told(program, last)
        for step in range(width, last + 1, hop):
            self.assertEqual(told[step - 1], tuple(range(step - width, step)))
        self.assertIs(right_forever(program, width, hop), True)
        self.assertIsNone(due_wrong(program, width, hop))

    def check_values(self, program, width, hop):
        for operation, feed in ((("maps", 3), ((1, 2, 0), (0, 0, 2), (1, 0, 2), (2, 1, 1))), (("brackets",), ((0, 1), (1, 0), (2, 1)))):
            feed = (feed * 40)[:3 * width + 5]
            got = run_program(program, operation, feed)
            for step in range(width, len(feed) + 1, hop):
                value = feed[step - width]
                for one in feed[step - width + 1:step]:
                    value = tuple(one[at] for at in value) if operation[0] == "maps" else self.bracket(value, one)
                check_same(self, got[step - 1], (value,))

    def bracket(self, one, other):
        met = min(one[1], other[0])
        return (one[0] + other[0] - met, one[1] + other[1] - met)

    def test_right_for_ever_with_the_least_mean(self):
        for cutting in SMALL + EDGES + (LONG[0],):
            corners = cutting[0]
            for make in (cutting_program, shifted_program):
                self.check_right(make(cutting), corners - 1, 1)
                self.check_values(make(cutting), corners - 1, 1)
                check_same(self, program_mean(make(cutting), 1), least_mean(corners - 1, 1))
            self.check_right(ready_program(cutting), corners, 1)
            self.check_values(ready_program(cutting), corners, 1)
            check_same(self, program_mean(ready_program(cutting), 1), ready_mean(corners))
            mean = 4 - Fraction(6, corners)
            check_same(self, ready_mean(corners), (mean.numerator, mean.denominator))

    def test_hops(self):
        for width, hop, cutting in hop_cases():
            program = hop_program(width, hop, cutting)
            self.check_right(program, width, hop)
            self.check_values(program, width, hop)
            mean = hop + 2 + (width % hop != 0) - Fraction(6, width // hop + 1)
            check_same(self, program_mean(program, hop), (mean.numerator, mean.denominator))
            check_same(self, least_mean(width, hop), (mean.numerator, mean.denominator))

    def test_joins_by_prices(self):
        for cutting in SMALL + EDGES + LONG[:2]:
            corners = cutting[0]
            prices = due_prices(cutting)
            for make in (cutting_program, shifted_program):
                program = make(cutting)
                for step in range(1, 2 * corners + 1):
                    rows = join_rows(program, step) - join_rows(program, step - 1)
                    self.assertEqual(rows, prices[step % corners])
                for many in (1, 2, 3, corners, 2 * corners + 1):
                    self.assertEqual(joins_done(program, many + corners - 2), first_joins(cutting, many))
        for cutting in CUTTINGS[:12]:
            for many in (1, 2, 4):
                self.assertEqual(joins_done(cutting_program(cutting), many + cutting[0] - 2), len(stretches_of(cutting, many)))

    def test_joins_of_hops_and_ready_ones(self):
        for width, hop in HOPS:
            corners = width // hop + 1
            program = hop_program(width, hop, fan(corners, corners - 1))
            for many in range(1, 2 * corners + 2):
                self.assertEqual(joins_done(program, width + (many - 1) * hop), hop_first(width, hop, many))
        for corners in range(2, 9):
            program = ready_program(fan(corners, corners - 1))
            for many in range(1, 2 * corners + 2):
                self.assertEqual(joins_done(program, many + corners - 2), ready_first(corners, many) - 1)

    def test_no_tiny_program_has_less(self):
        for program, (width, hop) in product(tiny_programs(), ((1, 1), (1, 2), (2, 1), (2, 2), (2, 3), (3, 2), (3, 4))):
            if right_forever(program, width, hop):
                top, bottom = program_mean(program, hop)
                least, under = least_mean(width, hop)
                self.assertGreaterEqual(top * under, least * bottom)


if __name__ == "__main__":
    unittest.main()
