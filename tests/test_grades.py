"""[26] right plans, [27] where they are wrong."""

import unittest
from itertools import product

from tests import helpers
from tests.helpers import LAP, PAIR, PLAN3, check_paper, check_parameters, check_same, check_unusable, small_rows
from tests.plans import EDGES, first_wrong, is_right, left_to_right, overlapping, right_to_left, small_plans, words_of
from tests.test_operations import SOME, due_join, sample
from underthree.feeds import bit_feed, count_feed, span_feed
from underthree.folds import fold_of
from underthree.grades import grade_of, right_all, right_commuting, right_idle, right_same, suits
from underthree.operations import idle_pair
from underthree.planruns import run_plan
from underthree.wrongs import lets_parting, parting_of, wrong_at

ROWS = small_rows(3, 2) + [((0, 4),), ((0, 1), (0, 2), (0, 3))]
GRADES = ("all", "commuting", "same")
IDLE = [operation for operation in helpers.OPERATIONS if idle_pair(operation) is not None]
NOT_IDLE = tuple(operation for operation in helpers.OPERATIONS if idle_pair(operation) is None)
SAME = (3, ((0, 1), (1, 2), (3, 4), (3, 2), (2, 3)), (5, 6, 7))
NOT_GRADES = helpers.NOT_TUPLES + ("All", "idle", (), ("all",), ["all"], "all ")


def right_by_feeds(plan, asks, operation):
    """right_idle by its definition."""
    if not suits(plan, asks):
        return False
    x, y = idle_pair(operation)
    for element in range(plan[0]):
        feed = tuple(y if at == element else x for at in range(plan[0]))
        if run_plan(plan, operation, feed) != tuple(fold_of(operation, feed, ask) for ask in asks):
            return False
    return True


class TestGrades(unittest.TestCase):
    def test_examples(self):
        check_same(self, grade_of(PLAN3, PAIR), "all")
        check_same(self, grade_of((2, ((1, 0),), (2,)), ((0, 2),)), "commuting")
        check_same(self, grade_of(LAP, ((0, 3),)), "same")

    def test_suits(self):
        self.assertIs(suits(PLAN3, PAIR), True)
        self.assertIs(suits(PLAN3, PAIR[:1]), False)
        self.assertIs(suits(PLAN3, PAIR + ((2, 3),)), False)
        self.assertIs(suits(PLAN3, ((0, 3), (1, 5))), False)
        self.assertIs(suits(PLAN3, ((0, 5), (1, 2))), False)
        self.assertIs(suits(PLAN3, ((0, 4), (3, 4))), True)
        self.assertIs(suits((1, (), ()), ()), True)
        self.assertIs(suits((1, (), (0,)), ()), False)
        self.assertIs(suits((1, (), ()), ((0, 1),)), False)

    def test_against_words(self):
        seen = set()
        for plan in small_plans():
            for asks in ROWS[::3] if plan not in EDGES else ROWS:
                due = [is_right(plan, asks, grade) for grade in GRADES]
                check_same(self, [right_all(plan, asks), right_commuting(plan, asks), right_same(plan, asks)], due)
                grade = GRADES[due.index(True)] if True in due else None
                check_same(self, grade_of(plan, asks), grade)
                seen.add(grade)
                self.assertIs(suits(plan, asks), len(plan[2]) == len(asks) and all(ask[1] <= plan[0] for ask in asks))
        self.assertEqual(seen, {"all", "commuting", "same", None})

    def test_whole_ways(self):
        for asks in small_rows(5, 2) + [((0, 9), (3, 12), (4, 5))]:
            size = max([ask[1] for ask in asks], default=1) + 1
            check_same(self, grade_of(left_to_right(size, asks), asks), "all")
            wide = [high - low for low, high in asks if high - low > 1]
            check_same(self, grade_of(right_to_left(size, asks), asks), "commuting" if wide else "all")
            due = "same" if wide and max(wide) > 2 else "all"
            check_same(self, grade_of(overlapping(size, asks), asks), due)

    def test_right_for_a_grade_is_right_for_its_operations(self):
        for plan, asks in ((PLAN3, PAIR), (right_to_left(4, PAIR), PAIR), (overlapping(4, PAIR), PAIR)):
            grade = grade_of(plan, asks)
            for operation in SOME:
                values = sample(operation)
                held = grade == "all" or operation[0] in ("most", "least", "or") or (
                    grade == "commuting" and operation[0] in ("sum", "product", "counts"))
                for feed in product(values[:3], repeat=plan[0]):
                    due = tuple(fold_of(operation, feed, ask) for ask in asks)
                    if held:
                        check_same(self, run_plan(plan, operation, feed), due)

    def test_right_idle(self):
        for operation in IDLE:
            for plan in EDGES + (SAME, right_to_left(4, PAIR), overlapping(4, PAIR)):
                for asks in ROWS + [PAIR, ((0, 3), (0, 5)), ((0, 3), (2, 3), (2, 5))]:
                    due = right_by_feeds(plan, asks, operation)
                    self.assertIs(right_idle(plan, asks, operation), due, (plan, asks, operation))
                    self.assertIs(right_same(plan, asks), due)

    def test_parameters(self):
        bad = {"plan": helpers.NOT_PLANS, "asks": helpers.NOT_ASKS}
        for function in (suits, right_all, right_commuting, right_same, grade_of):
            check_parameters(self, function, {"plan": PLAN3, "asks": PAIR}, bad)
        check_parameters(self, right_idle, {"plan": PLAN3, "asks": PAIR, "operation": ("or",)},
                         {**bad, "operation": helpers.NOT_OPERATIONS + NOT_IDLE})
        # An operation without an idle pair is told even if the plan does not suit the asks.
        check_unusable(self, "operation", -1, right_idle, PLAN3, (), ("sum", 3))

    def test_at_the_limits(self):
        asks = tuple((at, at + 61) for at in range(60))
        joins, answers = [], []
        for at in range(60):
            joins.append((at, at + 1))
        plan = (120, tuple(joins), tuple(range(120, 180)))
        check_same(self, grade_of(plan, asks), None)
        check_same(self, wrong_at(plan, asks, "same"), 0)
        pairs = tuple((at, at + 2) for at in range(60))
        check_same(self, grade_of(plan, pairs), "all")
        check_same(self, right_idle(plan, pairs, ("grids", 3, 10 ** 12)), True)


class TestWrongs(unittest.TestCase):
    def test_examples(self):
        check_same(self, parting_of(LAP, ((0, 3),), "all"), (0, ("spans",), ((0, 1), (1, 2), (2, 3))))
        check_same(self, lets_parting(LAP, ((0, 3),), (0, ("sum", 9), (1, 1, 1))), (4, 3))

    def test_wrong_at_and_parting_of(self):
        feeds = {"all": span_feed, "commuting": count_feed, "same": bit_feed}
        for plan in small_plans()[::5] + list(EDGES) + [SAME]:
            for asks in ROWS:
                if not suits(plan, asks):
                    continue
                for grade in GRADES:
                    due = first_wrong(plan, asks, grade)
                    check_same(self, wrong_at(plan, asks, grade), due)
                    got = parting_of(plan, asks, grade)
                    if due is None:
                        self.assertIsNone(got)
                        continue
                    check_same(self, got, (due,) + feeds[grade](plan[0]))
                    answer, value = lets_parting(plan, asks, got)
                    check_same(self, value, fold_of(got[1], got[2], asks[due]))
                    self.assertNotEqual(answer, value)

    def test_second_ask(self):
        plan, asks = (3, ((0, 1), (3, 2), (2, 1)), (3, 5, 4)), ((0, 2), (1, 3), (2, 3))
        check_same(self, [wrong_at(plan, asks, grade) for grade in GRADES], [1, 2, 2])
        check_same(self, parting_of(plan, asks, "commuting"), (2,) + count_feed(3))

    def test_lets_parting(self):
        for plan, asks in ((LAP, ((0, 3),)), (SAME, ((0, 3), (1, 2), (1, 3))), (PLAN3, ((0, 3), (2, 4)))):
            words = words_of(plan)
            for operation in SOME:
                values = sample(operation)[:3]
                for feed in product(values, repeat=plan[0]):
                    for at, ask in enumerate(asks):
                        word = words[plan[2][at]]
                        answer = feed[word[0]]
                        for element in word[1:]:
                            answer = due_join(operation, answer, feed[element])
                        due = fold_of(operation, feed, ask)
                        if answer == due:
                            check_paper(self, "alike", -1, lets_parting, plan, asks, (at, operation, feed))
                        else:
                            check_same(self, lets_parting(plan, asks, (at, operation, feed)), (answer, due))

    def test_paper(self):
        asks = ((0, 3),)
        for thing in helpers.NOT_TUPLES + ((), (0,), (0, ("sum", 9)), (0, ("sum", 9), (1, 1, 1), 0), [0, ("sum", 9), ()]):
            check_paper(self, "shape", -1, lets_parting, LAP, asks, thing)
        for wrong in helpers.NOT_NUMBERS + (1, 2, helpers.SIXTY):
            check_paper(self, "ask", -1, lets_parting, LAP, asks, (wrong, ("sum", 9), (1, 1, 1)))
            check_paper(self, "ask", -1, lets_parting, LAP, asks, (wrong, None, None))
        for wrong in helpers.NOT_OPERATIONS:
            check_paper(self, "operation", -1, lets_parting, LAP, asks, (0, wrong, (1, 1, 1)))
            check_paper(self, "operation", -1, lets_parting, LAP, asks, (0, wrong, None))
        for wrong in helpers.NOT_TUPLES + ((), (1, 1), (1, 1, 1, 1), (1, 1, 9), (1, 1, True), (1, 1, -1), [1, 1, 1]):
            check_paper(self, "feed", -1, lets_parting, LAP, asks, (0, ("sum", 9), wrong))
        check_paper(self, "alike", -1, lets_parting, LAP, asks, (0, ("most",), (1, 2, 3)))
        check_paper(self, "alike", -1, lets_parting, LAP, asks, (0, ("sum", 9), (1, 0, 1)))

    def test_paper_beyond_the_limits(self):
        huge = helpers.SIXTY
        check_same(self, lets_parting(LAP, ((0, 3),), (0, ("sum", 10 * huge), (0, huge, 0))), (2 * huge, huge))
        check_paper(self, "feed", -1, lets_parting, LAP, ((0, 3),), (0, ("counts", huge), ((1,), (1,), (1,))))
        check_paper(self, "feed", -1, lets_parting, LAP, ((0, 3),), (0, ("grids", huge, 2), (((1,),),) * 3))

    def test_parameters(self):
        not_suited = helpers.NOT_ASKS + ((), ((0, 3), (1, 3)), ((0, 4),), ((3, 4),))
        for function in (wrong_at, parting_of):
            check_parameters(self, function, {"plan": LAP, "asks": ((0, 3),), "grade": "all"},
                             {"plan": helpers.NOT_PLANS, "asks": not_suited, "grade": NOT_GRADES})
        check_parameters(self, lets_parting, {"plan": LAP, "asks": ((0, 3),), "thing": (0, ("sum", 9), (1, 1, 1))},
                         {"plan": helpers.NOT_PLANS, "asks": not_suited, "thing": ()})
        for wrong in not_suited:
            check_unusable(self, "asks", -1, lets_parting, LAP, wrong, None)
        for wrong in helpers.NOT_PLANS:
            check_unusable(self, "plan", -1, lets_parting, wrong, None, None)


if __name__ == "__main__":
    unittest.main()
