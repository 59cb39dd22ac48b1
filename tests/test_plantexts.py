"""[32] plans as lines and as objects."""

import unittest
from itertools import product

from tests import helpers
from tests.helpers import LAP, PAIR, PLAN3, check_all_texts, check_parameters, check_same, check_text, check_unusable
from tests.plans import EDGES, joins_of, small_plans
from underthree.grades import grade_of
from underthree.planchanges import beside_plan, tidied
from underthree.planclasses import Plan
from underthree.planruns import run_plan
from underthree.plantexts import plan_line, read_plan

NAMES = ("", "-1", "+1", "01", "00", "x", "1.", "1:", "-", "-;", "\u0661", ";", ",")


class TestLines(unittest.TestCase):
    def test_examples(self):
        check_same(self, plan_line(PLAN3), "4; 1 2, 0 4, 4 3; 5 6")
        check_same(self, read_plan("2; 0 1; -"), (2, ((0, 1),), ()))
        check_text(self, 2, read_plan, "2; 0 2; 1")

    def test_there_and_back(self):
        for plan in small_plans() + [(120, tuple((at, at) for at in range(400)), tuple(range(60)))]:
            size, joins, answers = plan
            line = f"{size}; " + (", ".join(f"{one} {other}" for one, other in joins) or "-") + "; "
            line += " ".join(map(str, answers)) or "-"
            check_same(self, plan_line(plan), line)
            check_same(self, read_plan(line), plan)

    def test_nothing(self):
        check_same(self, plan_line((7, (), ())), "7; -; -")
        check_same(self, plan_line((1, (), (0, 0))), "1; -; 0 0")
        check_same(self, read_plan("7; -; -"), (7, (), ()))
        check_same(self, read_plan("1; -; 0 0"), (1, (), (0, 0)))

    def test_parameters(self):
        check_parameters(self, plan_line, {"plan": LAP}, {"plan": helpers.NOT_PLANS})
        check_parameters(self, read_plan, {"text": "2; -; -"}, {"text": helpers.NOT_TEXT})

    def test_size(self):
        for wrong in NAMES + ("4", "0;", "04;", "-4;", "+4;", "4;;", "4,", "4:", "4 ;", " 4;"):
            check_text(self, 0, read_plan, wrong)
            check_text(self, 0, read_plan, wrong + " 1 2; 5")

    def test_join(self):
        for wrong in NAMES + ("1,", "1;", "2", "9"):
            if wrong != "-;":
                check_text(self, 1, read_plan, "2; " + wrong)
                check_text(self, 1, read_plan, "2; " + wrong + " 1; 0")
            check_text(self, 3, read_plan, "2; 0 1, " + wrong.replace("2", "3"))
        for wrong in ("", "1", "1:", "2,", "2;", "01;", "-1;", "1;;", "1,;", ";", ",", "-;", "x;", "0"):
            check_text(self, 2, read_plan, "2; 0 " + wrong)
            check_text(self, 2, read_plan, "2; 0 " + wrong + " 5")
        check_text(self, 4, read_plan, "2; 0 1, 2 3; 0")
        check_text(self, 3, read_plan, "2; 0 1, 3 2; 0")
        check_same(self, read_plan("2; 0 1, 2 2; 3"), (2, ((0, 1), (2, 2)), (3,)))

    def test_answer(self):
        for wrong in NAMES + ("3", "10", "1,", "1;"):
            if wrong != "-":
                check_text(self, 3, read_plan, "2; 0 1; " + wrong)
            check_text(self, 4, read_plan, "2; 0 1; 2 " + wrong)
            check_text(self, 3, read_plan, "1; -; 0 " + wrong)
        check_text(self, 2, read_plan, "2; -; 2")

    def test_too_many_parts(self):
        check_text(self, 4, read_plan, "2; 0 1; - 0")
        check_text(self, 3, read_plan, "2; -; - ")
        check_text(self, 3, read_plan, "2; -; - -")
        check_text(self, 3, read_plan, "2; -; 0 -")

    def test_ends_too_soon(self):
        for text, field in (("2;", 1), ("2; -;", 2), ("2; 0", 2), ("2; 0 1,", 3), ("2; 0 1;", 3), ("2; 0 1, 2", 4),
                            ("2; 0 1, 2 0,", 5), ("2; 0 1, 2 0;", 5)):
            check_text(self, field, read_plan, text)

    def test_blanks(self):
        for text, field in (("2;  0 1; 2", 1), ("2; 0  1; 2", 2), ("2; 0 1;  2", 3), ("2; 0 1; 2 ", 4), (" 2; -; -", 0),
                            ("2;-; -", 0), ("2; -;-", 1), ("2; 0,1; 2", 1)):
            check_text(self, field, read_plan, text)

    def test_all_short_texts(self):
        lines = []
        for size in (1, 2):
            for many in range(4):
                most = {0: 3, 1: 2}.get(many, 1)
                for joins in joins_of(size, many):
                    for answers in [row for more in range(most + 1) for row in product(range(size + many), repeat=more)]:
                        lines.append(plan_line((size, joins, answers)))
        tokens = ["1;", "2;", "0", "1", "2", "1,", "2,", "-;", "-", ""]
        check_all_texts(self, lines, tokens, 4, read_plan, plan_line)
        check_all_texts(self, lines, ["1;", "2;", "0", "1", "1,", "-;", "-"], 5, read_plan, plan_line)


class TestPlan(unittest.TestCase):
    def test_methods(self):
        for plan in small_plans()[::20] + list(EDGES):
            made = Plan(*plan)
            check_same(self, made.told(), plan)
            check_same(self, made.many(), len(plan[1]))
            for asks in ((), ((0, 2),), ((0, 3),), PAIR):
                check_same(self, made.grade(asks), grade_of(plan, asks))
            feed = tuple(range(plan[0]))
            check_same(self, made.on(("sum", 7), feed), run_plan(plan, ("sum", 7), feed))
            self.assertIs(type(made.tidy()), Plan)
            check_same(self, made.tidy().told(), tidied(plan))
            self.assertIs(type(made.beside(made)), Plan)
            check_same(self, made.beside(other=Plan(*LAP)).told(), beside_plan(plan, LAP))
            check_same(self, made.told(), plan)

    def test_by_name(self):
        made = Plan(answers=(2,), size=2, joins=((0, 1),))
        check_same(self, made.told(), (2, ((0, 1),), (2,)))
        check_same(self, made.on(feed=(4, 5), operation=("most",)), (5,))
        check_same(self, made.grade(asks=((0, 2),)), "all")

    def test_equality(self):
        for one in EDGES:
            for other in EDGES:
                self.assertIs(Plan(*one) == Plan(*other), one == other)
                self.assertIs(Plan(*one) != Plan(*other), one != other)
            for thing in (one, list(one), None, 1):
                self.assertIs(Plan(*one) == thing, False)
                self.assertIs(thing == Plan(*one), False)

    def test_errors(self):
        not_joins = helpers.NOT_TUPLES + (((0, 2),), ((0,),), ((0, 1, 1),), ([0, 1],), ((0, True),), ((0, 1), (3, 0)))
        not_answers = helpers.NOT_TUPLES + ((3,), (True,), (-1,), (0, 9), ((0,),), "0")
        check_parameters(self, Plan, {"size": 2, "joins": ((0, 1),), "answers": (2,)},
                         {"size": helpers.NOT_POSITIVE, "joins": not_joins, "answers": not_answers})
        check_unusable(self, "answers", -1, Plan, 2, (), (2,))
        made = Plan(*PLAN3)
        check_parameters(self, made.grade, {"asks": PAIR}, {"asks": helpers.NOT_ASKS})
        check_parameters(self, made.on, {"operation": ("sum", 9), "feed": (1, 2, 3, 4)},
                         {"operation": helpers.NOT_OPERATIONS, "feed": (None, (), (1, 2, 3), (1, 2, 3, 9), [1, 2, 3, 4])})
        check_parameters(self, made.beside, {"other": made}, {"other": helpers.NOT_TUPLES + (PLAN3, made.told)})


if __name__ == "__main__":
    unittest.main()
