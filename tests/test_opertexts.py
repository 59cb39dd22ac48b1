"""[17] operations and values as lines."""

import unittest
from itertools import product

from tests import helpers
from tests.helpers import check_all_texts, check_parameters, check_same, check_text
from tests.test_operations import SOME, WRONG_VALUES, sample
from underthree.opertexts import operation_line, read_operation, read_value, value_line

WORDS = {"sum": 1, "product": 1, "most": 0, "least": 0, "first": 0, "last": 0, "or": 0, "maps": 1, "grids": 2,
         "brackets": 0, "spans": 0, "counts": 1}


class TestLines(unittest.TestCase):
    def test_examples(self):
        got = [operation_line(("grids", 2, 5)), value_line(("grids", 2, 5), ((1, 0), (4, 2)))]
        check_same(self, got, ["grids 2 5", "1 0 4 2"])
        check_text(self, 1, read_value, ("spans",), "3 2")
        check_text(self, 2, read_operation, "grids 2")

    def test_operations_there_and_back(self):
        for operation in helpers.OPERATIONS:
            line = operation_line(operation)
            self.assertEqual(line, " ".join(map(str, operation)))
            check_same(self, read_operation(line), operation)

    def test_value_lines(self):
        for operation, value, line in (
                (("sum", 7), 0, "0"), (("product", 11), 10, "10"), (("most",), -5, "-5"), (("least",), 0, "0"),
                (("first",), -helpers.HUGE, "-1" + "0" * 30), (("last",), 12, "12"), (("or",), 7, "7"),
                (("maps", 3), (2, 0, 1), "2 0 1"), (("maps", 1), (0,), "0"), (("brackets",), (0, 10), "0 10"),
                (("spans",), None, "nought"), (("spans",), (0, 3), "0 3"), (("counts", 1), (9,), "9"),
                (("counts", 3), (0, 10, 0), "0 10 0"), (("grids", 1, 3), ((2,),), "2"),
                (("grids", 3, 9), ((0, 1, 2), (3, 4, 5), (6, 7, 8)), "0 1 2 3 4 5 6 7 8")):
            check_same(self, value_line(operation, value), line)
            check_same(self, read_value(operation, line), value)

    def test_values_there_and_back(self):
        for operation in helpers.OPERATIONS:
            for value in sample(operation):
                check_same(self, read_value(operation, value_line(operation, value)), value)

    def test_parameters(self):
        check_parameters(self, operation_line, {"operation": ("sum", 3)}, {"operation": helpers.NOT_OPERATIONS})
        check_parameters(self, read_operation, {"text": "sum 3"}, {"text": helpers.NOT_TEXT})
        check_parameters(self, read_value, {"operation": ("sum", 3), "text": "1"},
                         {"operation": helpers.NOT_OPERATIONS, "text": helpers.NOT_TEXT})
        for operation in SOME:
            check_parameters(self, value_line, {"operation": operation, "value": sample(operation)[-1]},
                             {"operation": helpers.NOT_OPERATIONS, "value": WRONG_VALUES[operation[0]]})


class TestWrongOperationLines(unittest.TestCase):
    def test_first_part(self):
        for text in ("", " ", "Sum 3", "sums 3", " sum 3", "3 sum", "sum\n3", "-", "grid 2 2", "nought"):
            check_text(self, 0, read_operation, text)

    def test_each_later_part(self):
        for word, many in WORDS.items():
            for at in range(1, many + 1):
                for wrong in ("", "0", "00", "01", "-1", "+1", "1.0", "x", "1,", "1;", "1_0", "\u0661", "-", " "):
                    parts = [word] + ["2"] * many
                    parts[at] = wrong
                    check_text(self, at, read_operation, " ".join(parts))

    def test_two_faults_at_once(self):
        check_text(self, 1, read_operation, "grids 0 0")
        check_text(self, 1, read_operation, "sum  3")
        check_text(self, 0, read_operation, "summ 0 0")
        check_text(self, 1, read_operation, "grids x")
        check_text(self, 1, read_operation, "sum x 3")

    def test_one_part_too_many(self):
        for word, many in WORDS.items():
            line = " ".join([word] + ["2"] * many)
            for more in ("2", "", "x", "2 2"):
                check_text(self, many + 1, read_operation, line + " " + more)

    def test_ends_too_soon(self):
        check_text(self, 1, read_operation, "sum")
        check_text(self, 1, read_operation, "grids")
        check_text(self, 2, read_operation, "grids 10")
        check_text(self, 1, read_operation, "counts")

    def test_all_short_texts(self):
        lines = {operation_line((word,) + numbers) for word, many in WORDS.items()
                 for numbers in product((1, 2, 10), repeat=many)}
        tokens = ["sum", "grids", "most", "spans", "1", "2", "10", "0", "01", "", "x"]
        check_all_texts(self, lines, tokens, 4, read_operation, operation_line)


class TestWrongValueLines(unittest.TestCase):
    def test_one_integer(self):
        for word, wrong in (("most", ("-0", "--1", "-01", "- 1", "+1")), ("sum", ("-1", "3", "4")), ("or", ("-1",))):
            operation = (word, 3) if word == "sum" else (word,)
            for part in wrong + ("", "00", "01", "x", "nought", "1,", "1.", "\u0661", "-"):
                check_text(self, 0, read_value, operation, part)
            check_text(self, 1, read_value, operation, "1 1")
            check_text(self, 1, read_value, operation, "1 ")
            check_text(self, 0, read_value, operation, " 1")

    def test_signs(self):
        for word in ("most", "least", "first", "last"):
            check_same(self, [read_value((word,), "-12"), read_value((word,), "0")], [-12, 0])
        for operation in (("sum", 9), ("product", 9), ("or",), ("maps", 2), ("brackets",), ("counts", 1), ("spans",)):
            check_text(self, 0, read_value, operation, "-1 0")

    def test_bounds(self):
        for operation in (("sum", 3), ("product", 3), ("grids", 1, 3)):
            self.assertTrue(read_value(operation, "2"))
            check_text(self, 0, read_value, operation, "3")
        check_text(self, 1, read_value, ("maps", 2), "1 2")
        check_text(self, 3, read_value, ("grids", 2, 2), "1 1 0 2")
        check_text(self, 0, read_value, ("sum", 1), "1")
        check_same(self, read_value(("counts", 2), "9 10"), (9, 10))

    def test_many_integers(self):
        for operation, many in ((("maps", 3), 3), (("grids", 2, 2), 4), (("brackets",), 2), (("counts", 3), 3)):
            for at in range(many):
                for wrong in ("", "01", "-1", "x", "nought", "0,"):
                    parts = ["0"] * many
                    parts[at] = wrong
                    check_text(self, at, read_value, operation, " ".join(parts))
                if at > 0:
                    check_text(self, at, read_value, operation, " ".join(["0"] * at))
            check_text(self, many, read_value, operation, " ".join(["0"] * many + ["0"]))
            check_text(self, many, read_value, operation, " ".join(["0"] * many) + " ")

    def test_spans(self):
        check_same(self, [read_value(("spans",), "nought"), read_value(("spans",), "2 10")], [None, (2, 10)])
        for text, field in (("3 3", 1), ("3 0", 1), ("3", 1), ("3 ", 1), ("3 04", 1), ("03 4", 0), ("nought ", 1),
                            ("nought nought", 1), ("3 nought", 1), ("Nought", 0), ("", 0), ("2 3 4", 2), ("None", 0)):
            check_text(self, field, read_value, ("spans",), text)

    def test_all_short_texts(self):
        tokens = ["0", "1", "2", "3", "-1", "-0", "01", "", "nought"]
        for operation, values in (
                (("sum", 3), range(3)), (("most",), range(-3, 4)), (("maps", 2), product(range(2), repeat=2)),
                (("brackets",), product(range(4), repeat=2)), (("counts", 2), product(range(4), repeat=2)),
                (("spans",), [None] + [(low, high) for low in range(5) for high in range(low + 1, 6)])):
            lines = {value_line(operation, value) for value in values}
            check_all_texts(self, lines, tokens, 3, lambda text: read_value(operation, text),
                            lambda value: value_line(operation, value))


if __name__ == "__main__":
    unittest.main()
