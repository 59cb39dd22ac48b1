"""[79] plans of programs, [80] what their first answers cost more than the least, [82] judges, and what [81] says of them."""

import unittest

from tests import helpers
from tests.cuttings import SMALL
from tests.helpers import PLAN3, check_error, check_parameters, check_same, check_unusable
from tests.plans import is_right
from tests.programs import (
    DUO, EDGES, LEAN, RANDOM, TWICE, begun, due_cutting_program, due_hop_program, due_wrong, foreign_programs, padded, plain_program, words_told,
)
from tests.test_means import least_by_words
from tests.test_uses import CASES, KEEPERS, NOT_RIGHT, check_right_parameters, due_over, quotient
from underthree.chordsums import first_joins
from underthree.errors import NotUsable
from underthree.excesses import excess_of
from underthree.grades import grade_of
from underthree.judgeclasses import Judge
from underthree.overs import first_over, over_parts
from underthree.steadies import steady_asks
from underthree.unrolled import plan_of
from underthree.verdicts import wrong_told

ALL = CASES[::2] + tuple((program, width, 1) for program, width, _ in KEEPERS[::2])


def due_plan(program, width, hop, many):
    """The plan by the words of [79]."""
    size = width + (many - 1) * hop
    names, joins, answers = {}, [], []
    for step in range(1, size + 1):
        rows, told = program[1][(step - 1) % len(program[1])]
        names[0] = step - 1
        for target, *sources in rows:
            sides = [names.get(source) for source in sources]
            names[target] = sides[0]
            if len(sides) == 2:
                names[target] = None
                if None not in sides:
                    names[target] = size + len(joins)
                    joins.append(tuple(sides))
        if step >= width and (step - width) % hop == 0:
            answers.append(names[told])
    return (size, tuple(joins), tuple(answers))


class TestPlans(unittest.TestCase):
    def test_examples(self):
        self.assertIs(plan_of(LEAN, 3, 1, 2) == PLAN3, True)
        check_same(self, plan_of(TWICE, 3, 1, 2), (4, ((1, 2), (0, 4), (1, 2), (6, 3)), (5, 7)))
        check_same(self, first_over(TWICE, 3, 1, 2), 1)
        check_same(self, over_parts(TWICE, 3, 1, 2), (1, 0, 0))

    def test_plans(self):
        for program, width, hop in ALL:
            for many in (1, 2, 5):
                plan = plan_of(program=program, width=width, hop=hop, many=many)
                check_same(self, plan, due_plan(program, width, hop, many))
                asks = steady_asks(width, hop, many)
                self.assertTrue(is_right(plan, asks, "all"))
                check_same(self, grade_of(plan, asks), "all")

    def test_sixty_elements(self):
        for program, width, hop in ((LEAN, 3, 1), (padded(TWICE), 3, 3), (due_hop_program(9, 2, (5, ((0, 2), (0, 3)))), 9, 2), (plain_program(5), 5, 11)):
            many = (60 - width) // hop + 1
            check_same(self, plan_of(program, width, hop, many), due_plan(program, width, hop, many))

    def test_one_answer(self):
        check_same(self, plan_of((1, (((), 0),)), 1, 1, 1), (1, (), (0,)))
        check_same(self, plan_of((1, (((), 0),)), 1, 7, 2), (8, (), (0, 7)))
        check_same(self, plan_of(DUO, 2, 2, 1), (2, ((0, 1),), (2,)))
        check_same(self, first_over(DUO, 2, 2, 1), 0)

    def test_overs(self):
        for program, width, hop in ALL:
            for many in (1, 2, 4):
                plan = due_plan(program, width, hop, many)
                over = len(plan[1]) - least_by_words(width, hop, many)
                check_same(self, first_over(program=program, width=width, hop=hop, many=many), over)
                parts = over_parts(program=program, width=width, hop=hop, many=many)
                check_same(self, parts, excess_of(plan, steady_asks(width, hop, many)))
                self.assertEqual(sum(parts), over)
                self.assertGreaterEqual(min(parts), 0)

    def test_keepers(self):
        for cutting in SMALL[:12]:
            width = cutting[0] - 1
            for many in (1, 2, 3, 7):
                check_same(self, first_over(due_cutting_program(cutting), width, 1, many), first_joins(cutting, many) - least_by_words(width, 1, many))
        parts = [over_parts(*case, 6) for case in ALL]
        for place in range(3):
            self.assertTrue(any(part[place] > 0 for part in parts))

    def test_parameters(self):
        for function in (plan_of, first_over, over_parts):
            check_right_parameters(self, function, {"many": 1}, {"many": helpers.NOT_POSITIVE})


class TestJudge(unittest.TestCase):
    def test_examples(self):
        check_same(self, Judge(LEAN, 3, 1).cutting(), (4, ((1, 3),)))
        check_error(self, NotUsable, {"word": "program", "at": -1}, Judge(DUO, 2, 1).over)

    def test_right_programs(self):
        for program, width, hop in ALL[::2] + tuple(foreign_programs())[::3]:
            live = Judge(program=program, width=width, hop=hop)
            over = due_over(program, width, hop)
            check_same(self, (live.right(), live.wrong(), live.told()), (True, None, (program, width, hop)))
            check_same(self, live.over(), quotient(over))
            check_same(self, live.best(), over == 0)
            check_same(self, live.plan(many=3), due_plan(program, width, hop, 3))
            if hop > 1 or over > 0:
                self.assertIsNone(live.cutting())
        for program, width, cutting in KEEPERS:
            check_same(self, Judge(program, width, 1).cutting(), cutting)
            check_same(self, Judge(program, width, 1).best(), True)
            self.assertIsNone(Judge(program, width, 2).cutting())

    def test_wrong_programs(self):
        cases = NOT_RIGHT + tuple((program, 2, hop) for program in RANDOM[::3] + EDGES for hop in (1, 2) if due_wrong(program, 2, hop) is not None)
        for program, width, hop in cases:
            live = Judge(program, width, hop)
            due = due_wrong(program, width, hop)
            check_same(self, (live.right(), live.wrong(), live.best(), live.told()), (False, due, False, (program, width, hop)))
            self.assertIsNone(live.cutting())
            self.assertNotEqual(words_told(program, due)[-1], tuple(range(due - width, due)))
            self.assertIsNotNone(wrong_told(program, width, hop))
            check_unusable(self, "program", -1, live.over)
            for many in (1, 0, None):
                check_unusable(self, "program", -1, live.plan, many)
            check_same(self, live.told(), (program, width, hop))

    def test_means(self):
        check_same(self, [Judge(LEAN, 3, 1).mean(), Judge(TWICE, 3, 1).mean(), Judge(DUO, 2, 1).mean(), Judge(DUO, 2, 2).mean(), Judge(LEAN, 3, 4).mean()],
                   [(3, 2), (2, 1), (1, 2), (1, 1), (6, 1)])
        check_same(self, [Judge(LEAN, 3, 1).over(), Judge(TWICE, 3, 1).over(), Judge(DUO, 2, 2).over(), Judge(LEAN, 3, 4).over()],
                   [(0, 1), (1, 2), (0, 1), (4, 1)])

    def test_equality(self):
        some = ((LEAN, 3, 1), (LEAN, 3, 2), (LEAN, 2, 1), (TWICE, 3, 1), (begun(LEAN, 1), 3, 1), (DUO, 2, 2))
        for one in some:
            for other in some:
                self.assertIs(Judge(*one) == Judge(*other), one == other)
                self.assertIs(Judge(*one) != Judge(*other), one != other)
            for thing in (one, one[0], None, True):
                self.assertIs(Judge(*one) == thing, False)
                self.assertIs(thing == Judge(*one), False)

    def test_parameters(self):
        bad = {"program": helpers.NOT_PROGRAMS, "width": helpers.NOT_POSITIVE, "hop": helpers.NOT_POSITIVE}
        check_parameters(self, Judge, {"program": DUO, "width": 2, "hop": 1}, bad)
        check_parameters(self, Judge(LEAN, 3, 1).plan, {"many": 1}, {"many": helpers.NOT_POSITIVE})


if __name__ == "__main__":
    unittest.main()
