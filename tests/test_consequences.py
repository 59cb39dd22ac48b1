"""[22] and [31], and of [11] the guarantees (G1) and (G2)."""

import unittest
from itertools import combinations, product

from tests.helpers import FORK, PAIR, PLAN3, check_same, small_rows
from tests.plans import EDGES, WASTE, left_to_right, overlapping, right_to_left, small_plans
from tests.test_operations import SOME, sample
from underthree.askchanges import kept_within, merged, mirrored, moved, stretched, without_ask
from underthree.askrows import clubs_of, order_fault
from underthree.families import fall_by, family_of, is_family, partners_of, struck_family
from underthree.folds import fold_of
from underthree.gains import gain_of
from underthree.grades import grade_of, right_all, right_commuting, right_same
from underthree.histories import asks_by, history_by
from underthree.kinds import is_queue
from underthree.planchanges import beside_plan, mirrored_plan, tidied, trimmed
from underthree.planruns import run_plan
from underthree.stands import can_strike, stand_of, struck
from underthree.strikechecker import lets_strikes

ROWS = small_rows(5, 3)
QUEUES = [row for row in ROWS if is_queue(row)]
STRANGE = (
    (4, ((0, 1), (4, 2), (1, 2), (6, 3), (1, 1)), (5, 7)), (4, ((2, 1), (0, 4), (3, 4), (1, 0), (6, 5)), (5, 6)),
    (4, ((0, 2), (1, 4), (3, 1), (6, 2), (0, 3)), (5, 7)), (4, ((0, 1), (1, 2), (4, 5), (2, 3), (5, 7)), (6, 8)),
)


def read_anew(stand):
    """The stand as a row of asks of the places left, counted from 0, and the names of the places."""
    left, asks = stand
    names = {place: at for at, place in enumerate(left)}
    return tuple((names[low], names[high]) for low, high in asks), names


def family_anew(family, names):
    return tuple(sorted(tuple(names[element] for element in lot) for lot in family))


class TestRows(unittest.TestCase):
    def test_changes_of_queue_rows(self):
        for row in QUEUES:
            for made in (mirrored(row, 6), stretched(row, (2, 1, 3, 1, 2)), moved(row, 3), kept_within(row, 1, 4)):
                self.assertIs(is_queue(made), True)
                self.assertIsNone(order_fault(made))
            for at in range(len(row)):
                self.assertIs(is_queue(without_ask(row, at)), True)
            for many in range(len(row)):
                for some in combinations(row, many):
                    self.assertIs(is_queue(some), True)
            check_same(self, asks_by(history_by(row)), row)

    def test_clubs_share_no_element(self):
        for row in ROWS:
            lots = [{element for ask in club for element in range(*ask)} for club in clubs_of(row)]
            for one, other in combinations(lots, 2):
                self.assertFalse(one & other)


class TestPlans(unittest.TestCase):
    def test_grades_follow_from_one_another(self):
        for plan in small_plans()[::3] + list(STRANGE):
            for asks in (((0, 2),), ((0, 3),), ((0, 1), (0, 2)), ((0, 2), (1, 3)), PAIR):
                rights = [right_all(plan, asks), right_commuting(plan, asks), right_same(plan, asks)]
                self.assertEqual(rights, sorted(rights))

    def test_right_plans_answer_all_feeds(self):
        for plan, asks in ((PLAN3, PAIR), (left_to_right(4, PAIR), PAIR), (left_to_right(5, ((0, 5), (2, 4))), ((0, 5), (2, 4)))):
            for operation in SOME:
                values = sample(operation)
                for turn in range(4):
                    feed = tuple(values[(at * (turn + 1) + turn) % len(values)] for at in range(plan[0]))
                    check_same(self, run_plan(plan, operation, feed), tuple(fold_of(operation, feed, ask) for ask in asks))

    def test_trimmed_and_tidied_answer_alike(self):
        for plan in small_plans()[::11] + list(EDGES) + list(STRANGE):
            for operation in SOME:
                values = sample(operation)
                feed = tuple(values[(2 * at + 1) % len(values)] for at in range(plan[0]))
                due = run_plan(plan, operation, feed)
                check_same(self, run_plan(trimmed(plan), operation, feed), due)
                check_same(self, run_plan(tidied(plan), operation, feed), due)

    def test_mirrored_plans_are_right_for_mirrored_queues(self):
        for row in QUEUES:
            for make in (left_to_right, right_to_left, overlapping):
                plan = make(6, row)
                grade = grade_of(plan, row)
                self.assertIsNotNone(grade)
                self.assertEqual(grade_of(mirrored_plan(plan), mirrored(row, 6)), grade)

    def test_plans_beside_one_another(self):
        ways = (left_to_right, right_to_left, overlapping)
        words = ("all", "commuting", "same")
        for make, other_make in product(ways, repeat=2):
            for row, other in ((PAIR, FORK), (FORK, PAIR), (((0, 3),), ((0, 1), (0, 4)))):
                size = 7
                plan, second = make(size, row), other_make(size, other)
                both = beside_plan(plan, second)
                asks = merged(row, moved(other, size))
                worse = max(words.index(grade_of(plan, row)), words.index(grade_of(second, other)))
                self.assertEqual(grade_of(both, asks), words[worse])


class TestFamilies(unittest.TestCase):
    def right_plans(self):
        for row in ROWS[::3] + [PAIR, FORK]:
            for make in (left_to_right, right_to_left, overlapping):
                yield make(7, row), row
        for plan in STRANGE + (WASTE, PLAN3):
            if right_same(plan, PAIR):
                yield plan, PAIR

    def test_families_of_right_plans(self):
        for plan, row in self.right_plans():
            family = family_of(plan, row)
            self.assertIs(is_family(row, family), True)
            stand = stand_of(row)
            for element in range(7):
                if not can_strike(stand, ("element", element)):
                    continue
                left = struck_family(family, element)
                self.assertEqual(len(family) - len(left), fall_by(family, element))
                self.assertGreaterEqual(fall_by(family, element), gain_of(stand, ("element", element)))
                asks, names = read_anew(struck(stand, ("element", element)))
                self.assertIs(is_family(asks, family_anew(left, names)), True)

    def test_partners_within_each_wide_ask(self):
        for plan, row in self.right_plans():
            family = family_of(plan, row)
            for low, high in row:
                if high - low < 2:
                    continue
                for element in range(low, high):
                    partners = partners_of(family, element)
                    self.assertTrue(any(low <= lot[0] and lot[-1] < high for lot in partners))
                    if element == low and any(end == element + 1 and end - begin > 1 for begin, end in row):
                        self.assertGreaterEqual(len(partners), 2)

    def test_no_strikes_gain_more_than_a_right_plan_has_joins(self):
        for row in [PAIR, ((0, 3), (1, 4), (2, 5)), ((0, 4), (1, 2), (1, 3))]:
            plans = [make(5, row) for make in (left_to_right, right_to_left, overlapping)]
            fewest = min(len(trimmed(plan)[1]) for plan in plans)
            papers = [((), stand_of(row))]
            while papers:
                paper, stand = papers.pop()
                self.assertLessEqual(lets_strikes(row, paper), fewest)
                strikes = [("element", at) for at in range(5)] + [("ask",) + ask for ask in stand[1]]
                for strike in strikes:
                    if can_strike(stand, strike):
                        papers.append((paper + ((strike, gain_of(stand, strike)),), struck(stand, strike)))


if __name__ == "__main__":
    unittest.main()
