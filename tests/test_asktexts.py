"""[21] rows of asks and histories as lines."""

import unittest
from itertools import product

from tests import helpers
from tests.helpers import FORK, PAIR, check_all_texts, check_parameters, check_same, check_text, small_rows
from tests.test_histories import NOT_HISTORIES, SMALL
from underthree.asktexts import asks_line, history_line, read_asks, read_history
from underthree.histories import is_history


class TestAskLines(unittest.TestCase):
    def test_example(self):
        check_same(self, [asks_line(PAIR), history_line((("put", 3), ("ask",)))], ["0-3 1-4", "put 3; ask"])

    def test_there_and_back(self):
        for row in small_rows(4, 3) + [FORK, ((0, 9), (1, 2)), ((9, 10), (10, 100)), ((0, helpers.HUGE),)]:
            line = asks_line(row)
            self.assertEqual(line, " ".join(f"{low}-{high}" for low, high in row) or "-")
            check_same(self, read_asks(line), row)

    def test_parameters(self):
        check_parameters(self, asks_line, {"asks": PAIR}, {"asks": helpers.NOT_ASKS})
        check_parameters(self, read_asks, {"text": "-"}, {"text": helpers.NOT_TEXT})

    def test_no_ask(self):
        for wrong in ("", "0", "0-", "-1", "--", "-0-1", "0--1", "0-0", "2-1", "00-1", "0-01", "01-2", "0-1-2", "x", "0-x",
                      "0:1", "0-1,", "0-1;", "+0-1", "0-1.0", "\u0660-1", "ask"):
            check_text(self, 0, read_asks, wrong)
            check_text(self, 1, read_asks, "0-1 " + wrong)
            check_text(self, 1, read_asks, "0-1 " + wrong + " 0-1")
        check_text(self, 1, read_asks, "0-1 -")

    def test_order(self):
        for text, field in (("0-1 0-1", 1), ("0-2 0-1", 1), ("1-2 0-9", 1), ("0-1 0-2 1-2 1-2", 3), ("9-10 10-11 2-3", 2)):
            check_text(self, field, read_asks, text)

    def test_blanks(self):
        for text, field in ((" ", 0), (" 0-1", 0), ("0-1 ", 1), ("0-1  1-2", 1), ("- ", 1), ("- 0-1", 1), (" -", 0),
                            ("- -", 1)):
            check_text(self, field, read_asks, text)

    def test_all_short_texts(self):
        lines = {asks_line(row) for row in small_rows(3, 4)}
        tokens = ["0-1", "0-2", "0-3", "1-2", "1-3", "2-3", "-", "", "1-1", "0-01"]
        check_all_texts(self, lines, tokens, 3, read_asks, asks_line)


class TestHistoryLines(unittest.TestCase):
    def test_there_and_back(self):
        for events in SMALL + [(("put", 40), ("drop", 39), ("ask",))]:
            if is_history(events):
                line = history_line(events)
                self.assertEqual(line, "; ".join(" ".join(map(str, event)) for event in events) or "-")
                check_same(self, read_history(line), events)

    def test_named_lines(self):
        check_same(self, history_line(()), "-")
        check_same(self, read_history("-"), ())
        check_same(self, read_history("ask; put 12; drop 12; ask"), (("ask",), ("put", 12), ("drop", 12), ("ask",)))

    def test_named_faults(self):
        check_text(self, 3, read_history, "put 1; drop 2")
        check_text(self, 0, read_history, "drop 1")

    def test_parameters(self):
        check_parameters(self, history_line, {"history": (("ask",),)}, {"history": NOT_HISTORIES})
        check_parameters(self, read_history, {"text": "-"}, {"text": helpers.NOT_TEXT})

    def test_word(self):
        for wrong in ("", "Ask", "asks", "put;", "drop;", "drop", "drop 1", "1", "-;", ";", "ask,", "ask;;", "ask.", "puts"):
            check_text(self, 0, read_history, wrong)
        for wrong in ("", "Ask", "put;", "drop;", "-", "1", ";", "ask;;"):
            check_text(self, 2, read_history, "put 3; " + wrong)

    def test_number(self):
        for wrong in ("", "0", "00", "01", "-1", "+1", "x", "1;;", "1,", ";", "0;", "ask", "\u0661"):
            check_text(self, 1, read_history, "put " + wrong)
            check_text(self, 3, read_history, "put 9; drop " + wrong)
        for wrong in ("10", "10;", "99; ask"):
            check_text(self, 3, read_history, "put 9; drop " + wrong)
        check_text(self, 5, read_history, "put 9; drop 5; drop 5")
        check_text(self, 4, read_history, "put 9; drop 9; drop 1")

    def test_ends_too_soon(self):
        for text, field in (("put", 1), ("ask;", 1), ("put 3;", 2), ("put 3; drop", 3), ("put 3; drop 1;", 4),
                            ("put 3; ask;", 3), ("ask; put", 2)):
            check_text(self, field, read_history, text)

    def test_too_many_parts(self):
        for text, field in (("ask ask", 1), ("put 3 ask", 2), ("put 3 ", 2), ("ask ", 1), ("- ask", 1), ("- ", 1),
                            ("put 3; drop 1 x", 4), ("ask; ask -", 2)):
            check_text(self, field, read_history, text)

    def test_blanks(self):
        for text, field in ((" ", 0), (" ask", 0), ("put  3", 1), ("put 3;  ask", 2), ("put 3 ; ask", 2), ("ask ;", 1)):
            check_text(self, field, read_history, text)

    def test_all_short_texts(self):
        events = [("put", 1), ("put", 2), ("drop", 1), ("drop", 2), ("ask",)]
        lines = {history_line(row) for many in range(6) for row in product(events, repeat=many) if is_history(row)}
        tokens = ["put", "drop", "ask", "ask;", "1", "2", "1;", "2;", "-", "", "0"]
        check_all_texts(self, lines, tokens, 4, read_history, history_line)


if __name__ == "__main__":
    unittest.main()
