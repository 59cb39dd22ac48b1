"""[41] strikes and papers as lines, Strikes."""

import unittest
from itertools import product

from tests import helpers
from tests.helpers import (
    FORK, PAIR, PLAN3, check_all_texts, check_crossed, check_parameters, check_same, check_text, check_unusable,
)
from tests.plans import WASTE
from tests.queues import EDGES, SMALL
from tests.test_excesses import NOT_RIGHT
from underthree.askclasses import Asks
from underthree.bounds import quick_bounds
from underthree.excesses import excess_of
from underthree.leastchanges import element_falls
from underthree.leasts import least_of
from underthree.strikeclasses import Strikes
from underthree.striketexts import paper_line, read_paper, read_strike, strike_line
from underthree.walking import walk_of

HUGE = helpers.SIXTY
STRIKES = (("element", 0), ("element", 5), ("element", 10), ("element", HUGE), ("ask", 0, 1), ("ask", 2, 7), ("ask", 9, HUGE))
LINES = ("0", "5", "10", str(HUGE), "0-1", "2-7", f"9-{HUGE}")
NOT_STRIKE_LINES = (
    "", "-", "x", "00", "05", "+5", "-5", "5-", "2-2", "7-2", "2-07", "02-7", "2--7", "2-7-", "-2-7", "2-7-9", "2_7", "5:", "5:1",
    "2-7:1", "5.", "5;", "\u0665", "\u00b2", "5\n", "\n5", "2-\u0667", "5,", "element", "1e3", "0x1",
)
NOT_ENTRIES = (
    "", "-", "x", "5", "2-7", "5:", ":1", ":", "5:01", "5:-1", "5:+1", "5:x", "05:1", "2-2:1", "3-2:1", "2-7:", "2-7:1:", "5:1:1",
    "5::1", "-:1", "5;1", "5-1", "5:1,", "5:\u0661", "2-7:1-2", "element:1", "5:1\n",
)
NOT_PAPERS = helpers.NOT_TUPLES + tuple((wrong,) for wrong in helpers.NOT_TUPLES) + (
    ((),), ((("element", 1),),), ((("element", 1), 1, 1),), ([("element", 1), 1],), (("element", 1), 1),
) + tuple(((strike, 1),) for strike in helpers.NOT_STRIKES) + tuple(
    ((("element", 1), number),) for number in helpers.NOT_NUMBERS) + (((("element", 1), 1), None), ((("element", 1), 1), (("ask", 2, 2), 1)))


class TestStrikeLines(unittest.TestCase):
    def test_there_and_back(self):
        check_same(self, read_strike("2-7"), ("ask", 2, 7))
        for strike, line in zip(STRIKES, LINES):
            check_same(self, strike_line(strike), line)
            check_same(self, read_strike(line), strike)

    def test_no_strike(self):
        for text in NOT_STRIKE_LINES:
            check_text(self, 0, read_strike, text)
            check_text(self, 0, read_strike, text + " 5")

    def test_behind_the_strike(self):
        for line in LINES:
            for more in (" ", "  ", " 5", " 2-7", " -", " x y", " :"):
                check_text(self, 1, read_strike, line + more)
            check_text(self, 0, read_strike, " " + line)

    def test_all_short_texts(self):
        tokens = ["0", "1", "0-1", "1-0", "1-2", "-", "", "00", "1:1"]
        check_all_texts(self, [strike_line(strike) for strike in STRIKES] + ["1", "1-2"], tokens, 3, read_strike, strike_line)

    def test_parameters(self):
        check_parameters(self, strike_line, {"strike": ("element", 1)}, {"strike": helpers.NOT_STRIKES})
        check_parameters(self, read_strike, {"text": "5"}, {"text": helpers.NOT_TEXT})


class TestPaperLines(unittest.TestCase):
    def test_examples(self):
        check_same(self, paper_line(walk_of(FORK)), "5:1 1-6:1 6:1 1-4:1 4:1 1:2")
        check_same(self, read_paper("2:1 1-4:0"), ((("element", 2), 1), (("ask", 1, 4), 0)))

    def test_there_and_back(self):
        entries = [((strike, number), f"{line}:{number}") for strike, line in zip(STRIKES, LINES) for number in (0, 1, 12, HUGE)]
        for many in range(3):
            for some in product(entries, repeat=many):
                paper = tuple(entry for entry, _ in some)
                line = " ".join(part for _, part in some) or "-"
                check_same(self, paper_line(paper), line)
                check_same(self, read_paper(line), paper)
        for row in SMALL[::7] + list(EDGES):
            check_same(self, read_paper(paper_line(walk_of(row))), walk_of(row))
        # The strikes need no stand: they may be told twice and in any sequence.
        check_same(self, read_paper("9:1 9:1 3:2"), ((("element", 9), 1), (("element", 9), 1), (("element", 3), 2)))

    def test_wrong_parts(self):
        for text in NOT_ENTRIES:
            if text != "-":
                check_text(self, 0, read_paper, text)
                check_text(self, 0, read_paper, text + " 5:1")
            check_text(self, 1, read_paper, "5:1 " + text)
            check_text(self, 2, read_paper, "5:1 2-7:0 " + text + " x")

    def test_blanks_and_nothing(self):
        check_same(self, read_paper("-"), ())
        for text, field in (("", 0), (" ", 0), ("- ", 1), ("- 5:1", 1), ("- -", 1), ("5:1  2:1", 1), ("5:1 ", 1), (" 5:1", 0)):
            check_text(self, field, read_paper, text)

    def test_all_short_texts(self):
        tokens = ["0:0", "1:2", "0-1:1", "1-0:1", "-", "", "0:00", "1", "0-1"]
        entries = [(("element", 0), 0), (("element", 1), 2), (("ask", 0, 1), 1)]
        lines = [paper_line(paper) for many in range(4) for paper in product(entries, repeat=many)]
        check_all_texts(self, lines, tokens, 3, read_paper, paper_line)

    def test_parameters(self):
        check_parameters(self, paper_line, {"paper": ()}, {"paper": NOT_PAPERS})
        check_parameters(self, read_paper, {"text": "-"}, {"text": helpers.NOT_TEXT})


class TestStrikes(unittest.TestCase):
    def test_examples(self):
        check_same(self, (Strikes(PAIR).bounds(), Strikes(PAIR).fall(2), Strikes(PAIR).over(PLAN3)), ((3, 6), 1, (0, 0, 0)))

    def test_methods(self):
        for row in SMALL[::5] + list(EDGES):
            live = Strikes(queue=row)
            check_same(self, live.told(), row)
            check_same(self, (live.least(), live.paper(), live.bounds()), (least_of(row), walk_of(row), quick_bounds(row)))
        for row in SMALL[::9] + [FORK]:
            for element, loss in element_falls(row):
                check_same(self, Strikes(row).fall(element=element), loss)
        check_same(self, Strikes(PAIR).over(plan=WASTE), excess_of(WASTE, PAIR))

    def test_equality(self):
        for one in (PAIR, FORK, (), ((0, 1),)):
            for other in (PAIR, FORK, (), ((0, 1),)):
                self.assertIs(Strikes(one) == Strikes(other), one == other)
                self.assertIs(Strikes(one) != Strikes(other), one != other)
            for thing in (one, None, 1, Asks(*one)):
                self.assertIs(Strikes(one) == thing, False)
                self.assertIs(thing == Strikes(one), False)

    def test_errors(self):
        check_parameters(self, Strikes, {"queue": PAIR}, {"queue": helpers.NOT_ASKS})
        check_crossed(self, Strikes, {"queue": PAIR}, {})
        live = Strikes(PAIR)
        check_parameters(self, live.fall, {"element": 3}, {"element": helpers.NOT_NUMBERS + (4, helpers.HUGE)})
        check_parameters(self, live.over, {"plan": PLAN3}, {"plan": helpers.NOT_PLANS})
        for row in NOT_RIGHT:
            check_unusable(self, "queue", -1, Strikes(row).over, PLAN3)


if __name__ == "__main__":
    unittest.main()
