"""[65] programs as lines."""

import unittest
from itertools import product

from tests import helpers
from tests.helpers import check_all_texts, check_parameters, check_same, check_text
from tests.programs import CUTTINGS, DUO, EDGES, LEAN, RANDOM, TWICE, due_cutting_program, due_hop_program, wild_program
from underthree.programtexts import program_line, read_program

PAIRS = due_cutting_program((3, ()))


def due_line(program):
    """The line by the words of [65], part by part."""
    registers, phases = program
    parts = [f"{registers};"]
    for at, (rows, told) in enumerate(phases):
        for place, row in enumerate(rows):
            parts.extend(str(one) for one in row)
            parts[-1] += ":" if place == len(rows) - 1 else ","
        if not rows:
            parts.append("-:")
        parts.append(("-" if told is None else str(told)) + ("" if at == len(phases) - 1 else ";"))
    return " ".join(parts)


def small_lines(registers, parts):
    """All lines of programs of so many registers that have at most so many parts behind the first one, and some longer ones."""
    names = range(registers)
    rows = [(target, *sources) for target in names[1:] for many in (1, 2) for sources in product(names, repeat=many)]
    some_rows = [()] + [(row,) for row in rows] + [pair for pair in product(rows, repeat=2) if len(pair[0] + pair[1]) <= parts + 2]
    copies = [row for row in rows if len(row) == 2]
    phases = [(few, told) for few in some_rows + list(product(copies, repeat=3)) for told in (None, *names)]
    short = [(few, told) for few, told in phases if sum(len(row) for row in few) <= 4]
    lines = [due_line((registers, (phase,))) for phase in phases]
    lines += [due_line((registers, pair)) for pair in product(short, repeat=2)]
    first = [((), told) for told in (None, *names)]
    lines += [due_line((registers, triple)) for triple in product(first, first, first)]
    return lines


class TestLines(unittest.TestCase):
    def test_examples(self):
        check_same(self, program_line(PAIRS), "4; 1 0, 3 3 1: 3; 2 0, 1 1 2: 1; 3 0, 2 2 3: 2")
        check_text(self, 2, read_program, "3; 1 3: -")
        check_same(self, program_line(due_hop_program(3, 2, (2, ()))), "4; 1 0, 3 2 1: 3; 1 1 0: -; 2 0, 3 1 2: 3; 2 2 0: -")

    def test_there_and_back(self):
        keepers = tuple(due_cutting_program(cutting) for cutting in CUTTINGS)
        for program in RANDOM + EDGES + keepers + (LEAN, TWICE, DUO, wild_program(0)):
            line = due_line(program)
            check_same(self, program_line(program), line)
            check_same(self, read_program(text=line), program)
        check_same(self, program_line((1, (((), None),))), "1; -: -")
        check_same(self, read_program("1; -: 0"), (1, (((), 0),)))
        check_same(self, read_program("3; -: -; -: 2"), (3, (((), None), ((), 2))))

    def test_each_part(self):
        # For each place of a line what can't stand there, whatever stands behind it.
        for text, at, wrongs in (
            ("4; 1 0, 3 3 1: 3; 2 0: 1", 0, ("", "4", "0;", "04;", "-4;", "+4;", "x;", "4:", "4,", "4;;", "-;", ";")),
            ("4; 1 0, 3 3 1: 3; 2 0: 1", 1, ("", "0", "4", "01", "-1", "1,", "1:", "1;", "x", "-", "-;", "-,", ":")),
            ("4; 1 0, 3 3 1: 3; 2 0: 1", 2, ("", "4", "4,", "4:", "00", "0;", "0,,", "0:,", "-", "-:", "x,", ",", ":", "-1:", "+1,")),
            ("4; 1 0, 3 3 1: 3; 2 0: 1", 3, ("", "0", "4", "-:", "3,", "3:", "03")),
            ("4; 1 0, 3 3 1: 3; 2 0: 1", 4, ("", "4", "4:", "3;", "-", "3::")),
            ("4; 1 0, 3 3 1: 3; 2 0: 1", 5, ("", "1", "4:", "4,", "1;", "01:", "-:", "x:", "1::", "1:;")),
            ("4; 1 0, 3 3 1: 3; 2 0: 1", 6, ("", "4;", "4", "03;", "3,", "3:", "-:", "-,", "--", "3;;", ";", "x;")),
            ("4; 1 0, 3 3 1: 3; 2 0: 1", 7, ("", "0", "4", "-", "-;", "2:")),
            ("4; 1 0, 3 3 1: 3; 2 0: 1", 9, ("", "4", "01", "-:", "1,", "1:", "-,", "+1", "1\n", "\u0661")),
            ("1; -: -", 1, ("0", "-", "1", "", "0:", "-;", "-,")),
            ("1; -: -", 2, ("1", "1;", "", "x", "-:", "00")),
        ):
            parts = text.split(" ")
            for wrong in wrongs:
                check_text(self, at, read_program, " ".join(parts[:at] + [wrong] + parts[at + 1:]))
                check_text(self, at, read_program, " ".join(parts[:at] + [wrong]))
            check_same(self, program_line(read_program(text)), text)

    def test_too_soon_and_too_long(self):
        for text, field in (("2;", 1), ("2; 1", 2), ("2; 1 0", 3), ("2; 1 0,", 3), ("2; 1 0:", 3), ("2; 1 0 0,", 4), ("2; 1 0 0:", 4), ("2; -:", 2),
                            ("2; -: -;", 3), ("2; -: 1;", 3), ("2; -: 1; 1 0:", 5), ("2; 1 0, 1", 4), ("2; -: - ", 3), ("2; -: - -", 3), ("2; -: 1 0", 3),
                            ("2; 1 0: 1 2;", 4), ("2; 1 0: 1 ;", 4), (" 2; -: -", 0), ("2;  -: -", 1), ("2; -:  -", 2), ("2;-: -", 0), ("2; -:-", 1),
                            ("2; 1  0: 1", 2), ("2; 1 0 0 0: 1", 3), ("2; 1: 1", 1)):
            check_text(self, field, read_program, text)

    def test_all_short_texts(self):
        check_all_texts(self, small_lines(1, 4), ["1;", "0", "-:", "-", "-;", "0;", "0:", ""], 5, read_program, program_line)
        tokens = ["2;", "1", "0", "0,", "0:", "1:", "-:", "-", "1;"]
        check_all_texts(self, small_lines(1, 4) + small_lines(2, 5), tokens, 5, read_program, program_line)
        for text in product(["1", "0", "0,", "1:", "-:", "-", "1;", "2"], repeat=4):
            self.check_behind(" ".join(text))

    def check_behind(self, rest):
        """Behind a whole phase all is read as it is at the beginning, three places later."""
        try:
            program = read_program("2; " + rest)
        except helpers.InvalidText as error:
            check_text(self, error.field + 3, read_program, "2; 1 0: -; " + rest)
        else:
            check_same(self, read_program("2; 1 0: -; " + rest), (2, ((((1, 0),), None),) + program[1]))

    def test_parameters(self):
        check_parameters(self, program_line, {"program": LEAN}, {"program": helpers.NOT_PROGRAMS})
        check_parameters(self, read_program, {"text": "1; -: -"}, {"text": helpers.NOT_TEXT})


if __name__ == "__main__":
    unittest.main()
