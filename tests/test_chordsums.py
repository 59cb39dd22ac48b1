"""[59] cheap cuttings, [60] what first answers cost, what [62] says of both, and of [11] the guarantee (G9)."""

import unittest

from tests import helpers
from tests.cuttings import EDGES, LONG, SMALL, all_cuttings, are_joined, due_prices, random_cutting, stretches_of
from tests.helpers import FAN5, HEX, check_parameters, check_same, check_unusable
from tests.queues import fewest_cuts
from underthree.chordsums import (
    answer_price, first_chords, first_joins, is_least_always, least_first, over_least, step_joins,
)
from underthree.cheapest import cheapest_cutting, cutting_cost, least_cost
from underthree.cornerprices import prices_of
from underthree.cuttingkinds import is_cutting
from underthree.leasts import least_of
from underthree.shapes import fan
from underthree.steadies import steady_asks

HUGE = 10 ** 30
NOT_COSTS = helpers.NOT_TUPLES + ((-1, 0), (True, 0), (0, False), (0, "1"), (0, None), ((0,), 1), [0, 1], (0, [1]))
NOT_FOR_SIX = NOT_COSTS + ((), (1,), (1,) * 5, (1,) * 7, (1, 1, 1, 1, 1, True))
COSTS = (
    (0, 0), (7, 9), (0, 0, 0), (1, 2, 3), (5, 0, 0, 0), (0, 5, 0, 7), (3, 1, 4, 1, 5), (0, 0, 0, 0, 0), (9, 0, 9, 0, 9, 0),
    (1, 1, 1, 1, 1, 1), (HUGE, 1, HUGE - 1, 0, 7, HUGE), (0, 0, 0, 1, 0, 0, 0), (2, 7, 1, 8, 2, 8, 1), (1, 10, 100, 1000, 100, 10, 1, 0),
    (HUGE,) * 7, (HUGE - 3, HUGE - 2, HUGE - 1, HUGE, 1, 2, 3, 4),
)


class TestCheapest(unittest.TestCase):
    def test_cutting_cost(self):
        for cutting in SMALL + LONG[:3] + EDGES:
            for add, factor in ((0, 0), (3, 1), (1, 7), (HUGE - 2000, 13)):
                costs = tuple(add + factor * (at * at % 11) for at in range(cutting[0]))
                due = sum(price * cost for price, cost in zip(due_prices(cutting), costs))
                check_same(self, cutting_cost(cutting, costs), due)
        check_same(self, cutting_cost((2, ()), (5, 6)), 0)
        check_same(self, cutting_cost((3, ()), (5, 6, 7)), 18)

    def test_beside_all_cuttings(self):
        for costs in COSTS:
            least = min(sum(price * cost for price, cost in zip(due_prices(cutting), costs)) for cutting in all_cuttings(len(costs)))
            check_same(self, least_cost(costs), least)
            cutting = cheapest_cutting(costs)
            self.assertIs(is_cutting(cutting), True)
            self.assertEqual(cutting[0], len(costs))
            check_same(self, cutting_cost(cutting, costs), least)

    def test_thirty_corners(self):
        for costs in ((0,) * 30, (1,) * 30, tuple(at * 17 % 30 for at in range(30)), tuple(HUGE - at for at in range(30)),
                      (0,) * 29 + (HUGE,), tuple(HUGE * (at % 2) for at in range(30))):
            cutting = cheapest_cutting(costs)
            self.assertIs(is_cutting(cutting), True)
            check_same(self, cutting_cost(cutting, costs), least_cost(costs))
            for seed in range(20):
                self.assertLessEqual(least_cost(costs), cutting_cost(random_cutting(30, seed), costs))
            for corner in range(30):
                self.assertLessEqual(least_cost(costs), cutting_cost(fan(30, corner), costs))
        check_same(self, least_cost((1,) * 30), 84)
        # All but one can be cut off as ears; this one is in one triangle then.
        check_same(self, least_cost((0,) * 29 + (HUGE,)), HUGE)
        # Each second corner can be an ear.
        check_same(self, least_cost(tuple(HUGE * (at % 2) for at in range(30))), 15 * HUGE)

    def test_parameters(self):
        check_parameters(self, cutting_cost, {"cutting": HEX, "costs": (1,) * 6},
                         {"cutting": helpers.NOT_CUTTINGS, "costs": NOT_FOR_SIX})
        for function in (least_cost, cheapest_cutting):
            check_parameters(self, function, {"costs": (0, 5)}, {"costs": NOT_COSTS + ((), (0,), (7,))})


class TestFirstAnswers(unittest.TestCase):
    def test_examples(self):
        check_same(self, first_joins(FAN5, 10 ** 30), 1800000000000000000000000000000)
        check_same(self, (step_joins(HEX, 3), step_joins(HEX, 4)), (0, 2))
        check_same(self, (least_first(5, 3), over_least(HEX, 3), is_least_always(FAN5)), (7, 1, True))
        check_same(self, [answer_price(FAN5, answer) for answer in range(7)], [3, 1, 2, 2, 1, 3, 1])

    def test_by_the_stretches_that_are_made(self):
        for cutting in SMALL[::4] + (FAN5, HEX, LONG[0]) + EDGES:
            corners = cutting[0]
            costs = [len(stretches_of(cutting, many)) for many in range(3 * corners)]
            check_same(self, [first_joins(cutting, many) for many in range(3 * corners)], costs)
            prices = [after - before for before, after in zip(costs, costs[1:])]
            check_same(self, [answer_price(cutting, answer) for answer in range(len(prices))], prices)
            for step in range(1, 3 * corners):
                # A stretch of a later answer ends later than its step.
                made = [stretch for stretch in stretches_of(cutting, step + 1) if stretch[1] == step]
                check_same(self, step_joins(cutting, step), len(made))
                due = [low for low in range(max(0, step - corners + 1), step - 1)
                       if are_joined(cutting, low % corners, step % corners)]
                self.assertEqual(len(made), len(due))

    def test_chords(self):
        for cutting in SMALL[::3] + LONG[:4] + EDGES:
            corners, chords = cutting
            at = [len([chord for chord in chords if corner in chord]) for corner in range(corners)]
            for many in range(3 * corners):
                check_same(self, first_chords(cutting, many), sum(at[corner % corners] for corner in range(many)))

    def test_answers_and_steps_add_up(self):
        for cutting in SMALL[::5] + LONG[:4] + EDGES:
            corners = cutting[0]
            for many in list(range(1, 2 * corners, 3)) + [3 * corners]:
                joins = first_joins(cutting, many)
                self.assertEqual(sum(answer_price(cutting, answer) for answer in range(many)), joins)
                self.assertEqual(sum(step_joins(cutting, step) for step in range(1, corners - 1 + many)), joins)

    def test_huge_numbers(self):
        for cutting in LONG + (FAN5, HEX, (4, ((0, 2),))):
            corners, chords = cutting
            rounds, rest = divmod(HUGE - 1, corners)
            due = HUGE + corners - 3 + rounds * 2 * (corners - 3) + first_chords(cutting, rest)
            check_same(self, first_joins(cutting, HUGE), due)
            check_same(self, first_chords(cutting, HUGE), 2 * len(chords) * (HUGE // corners) + first_chords(cutting, HUGE % corners))
            check_same(self, answer_price(cutting, HUGE), prices_of(cutting)[(HUGE - 1) % corners])
            check_same(self, step_joins(cutting, HUGE), step_joins(cutting, HUGE % corners + corners))
            check_same(self, over_least(cutting, HUGE), due - least_first(corners - 1, HUGE))
            # A whole round costs the prices of all corners.
            self.assertEqual(first_joins(cutting, HUGE) - first_joins(cutting, HUGE - corners), 3 * corners - 6)
            self.assertEqual(least_first(corners - 1, HUGE) - least_first(corners - 1, HUGE - corners), 3 * corners - 6)

    def test_two_and_three_corners(self):
        two, three = (2, ()), (3, ())
        for many in (0, 1, 2, 7, HUGE):
            check_same(self, [first_chords(two, many), first_joins(two, many), answer_price(two, many), over_least(two, many)], [0] * 4)
            check_same(self, step_joins(two, many + 1), 0)
            check_same(self, [first_chords(three, many), first_joins(three, many), answer_price(three, many)], [0, many, 1])
            check_same(self, [over_least(three, many), step_joins(three, many + 2)], [0, 1])
        check_same(self, [step_joins(three, 1), is_least_always(two), is_least_always(three)], [0, True, True])

    def test_nothing(self):
        for cutting in SMALL[::7]:
            check_same(self, [first_chords(cutting, 0), first_joins(cutting, 0), over_least(cutting, 0)], [0, 0, 0])
            check_same(self, answer_price(cutting, 0), cutting[0] - 2)


class TestLeast(unittest.TestCase):
    def test_least_first(self):
        for width in range(1, 8):
            for many in range(31):
                check_same(self, least_first(width, many), least_of(steady_asks(width, 1, many)))
        for width in (3, 4):
            for many in range(5):
                check_same(self, least_first(width, many), fewest_cuts(steady_asks(width, 1, many)))
        for width in (20, 39, 40):
            for many in (0, 1, 2, width, width + 1, width + 2, 60):
                check_same(self, least_first(width, many), least_of(steady_asks(width, 1, many)))
        check_same(self, [least_first(1, HUGE), least_first(40, 0), least_first(40, 1), least_first(2, HUGE)], [0, 0, 39, HUGE])

    def test_over_least(self):
        for cutting in SMALL[::2]:
            corners = cutting[0]
            row = [over_least(cutting, many) for many in range(2 * corners + 2)]
            due = [first_joins(cutting, many) - least_of(steady_asks(corners - 1, 1, many)) for many in range(2 * corners + 2)]
            check_same(self, row, due)
            self.assertTrue(all(over >= 0 for over in row))

    def test_is_least_always(self):
        for cutting in SMALL:
            corners = cutting[0]
            due = all(over_least(cutting, many) == 0 for many in range(2 * corners + 1))
            self.assertIs(is_least_always(cutting), due)
        for corners in (8, 59, 60):
            self.assertIs(is_least_always(fan(corners, corners - 1)), True)
            self.assertIs(is_least_always(fan(corners, 0)), False)
            self.assertTrue(all(over_least(fan(corners, corners - 1), many) == 0 for many in range(3 * corners)))

    def test_parameters(self):
        cuttings, numbers = helpers.NOT_CUTTINGS, helpers.NOT_NUMBERS
        for function in (first_chords, first_joins, over_least):
            check_parameters(self, function, {"cutting": HEX, "many": 0}, {"cutting": cuttings, "many": numbers})
        check_parameters(self, answer_price, {"cutting": HEX, "answer": 0}, {"cutting": cuttings, "answer": numbers})
        check_parameters(self, step_joins, {"cutting": HEX, "step": 1}, {"cutting": cuttings, "step": helpers.NOT_POSITIVE})
        check_parameters(self, least_first, {"width": 1, "many": 0}, {"width": helpers.NOT_POSITIVE, "many": numbers})
        check_parameters(self, is_least_always, {"cutting": HEX}, {"cutting": cuttings})
        check_unusable(self, "many", -1, first_joins, (2, ()), -1)
        check_unusable(self, "step", -1, step_joins, (2, ()), 0)


if __name__ == "__main__":
    unittest.main()
