"""[57] shapes and turns, [58] quiet and level cuttings, and of [11] what (G8) says of them."""

import unittest
from itertools import combinations

from tests import helpers
from tests.cuttings import EDGES, LONG, SMALL, all_cuttings, due_count, due_prices, due_turned, is_side
from tests.helpers import FAN5, HEX, check_error, check_parameters, check_same, check_unusable
from underthree.cuttingkinds import is_cutting
from underthree.errors import Beside
from underthree.quiets import can_quiet, ears_of, level_count, level_cuttings, quiet_cutting, worst_price
from underthree.shapes import fan, mirrored_cutting, turned_cutting, zigzag, zigzag_back
from underthree.turns import least_turn, turn_order, turned_count

HUGE = helpers.SIXTY
NOT_CORNERS = helpers.NOT_CORNERS


def chords_of(corners, pairs):
    """The cutting of the pairs that are chords, each told once."""
    pairs = {tuple(sorted(pair)) for pair in pairs}
    return (corners, tuple(sorted(pair for pair in pairs if not is_side(corners, pair))))


def due_zigzag(corners, corner, way):
    row = []
    for step in range(1, corners):
        for other in ((corner + way * step) % corners, (corner - way * step) % corners):
            if other != corner and other not in row:
                row.append(other)
    return chords_of(corners, zip(row, row[1:]))


class TestShapes(unittest.TestCase):
    def test_examples(self):
        check_same(self, (zigzag(6, 0), zigzag_back(6, 0)),
                   ((6, ((1, 5), (2, 4), (2, 5))), (6, ((1, 4), (1, 5), (2, 4)))))

    def test_by_definition(self):
        for corners in list(range(2, 14)) + [59, 60]:
            for corner in range(corners):
                others = [(corner, other) for other in range(corners) if other != corner]
                check_same(self, fan(corners, corner), chords_of(corners, others))
                check_same(self, zigzag(corners, corner), due_zigzag(corners, corner, 1))
                check_same(self, zigzag_back(corners, corner), due_zigzag(corners, corner, -1))
                for make in (fan, zigzag, zigzag_back):
                    self.assertIs(is_cutting(make(corners, corner)), True)

    def test_edges(self):
        for make in (fan, zigzag, zigzag_back):
            check_same(self, [make(2, 0), make(2, 1), make(3, 0), make(3, 2)], [(2, ()), (2, ()), (3, ()), (3, ())])
        check_same(self, fan(5, 4), FAN5)
        check_same(self, [fan(4, 1), zigzag(4, 1), zigzag_back(4, 1)], [(4, ((1, 3),)), (4, ((0, 2),)), (4, ((0, 2),))])
        check_same(self, [zigzag(5, 0), zigzag_back(5, 0)], [(5, ((1, 4), (2, 4))), (5, ((1, 3), (1, 4)))])

    def test_turned_and_mirrored(self):
        for cutting in SMALL + LONG + EDGES:
            corners, chords = cutting
            for by in (0, 1, 2, corners - 1, corners, corners + 3, 10 ** 30):
                check_same(self, turned_cutting(cutting, by), due_turned(cutting, by))
            last = corners - 1
            check_same(self, mirrored_cutting(cutting), chords_of(corners, [(last - one, last - other) for one, other in chords]))
            check_same(self, mirrored_cutting(mirrored_cutting(cutting)), cutting)
        check_same(self, turned_cutting(FAN5, 1), (5, ((0, 2), (0, 3))))
        check_same(self, mirrored_cutting(FAN5), (5, ((0, 2), (0, 3))))

    def test_parameters(self):
        for make in (fan, zigzag, zigzag_back):
            check_parameters(self, make, {"corners": 5, "corner": 4},
                             {"corners": NOT_CORNERS, "corner": helpers.NOT_NUMBERS + (5, 6, HUGE)})
        check_parameters(self, turned_cutting, {"cutting": HEX, "by": 0},
                         {"cutting": helpers.NOT_CUTTINGS, "by": helpers.NOT_NUMBERS})
        check_parameters(self, mirrored_cutting, {"cutting": HEX}, {"cutting": helpers.NOT_CUTTINGS})


class TestTurns(unittest.TestCase):
    def test_examples(self):
        check_same(self, (least_turn(HEX), turn_order(HEX), turned_count(6, 3)), (2, 3, 6))

    def test_by_definition(self):
        orders = set()
        for cutting in SMALL + LONG + EDGES + all_cuttings(8):
            corners = cutting[0]
            due = min(by for by in range(1, corners + 1) if due_turned(cutting, by) == cutting)
            check_same(self, least_turn(cutting), due)
            check_same(self, turn_order(cutting), corners // due)
            orders.add(corners // due)
        self.assertEqual(orders, {1, 2, 3})
        check_same(self, [turn_order((2, ())), turn_order((3, ())), turn_order((4, ((0, 2),))), turn_order(FAN5)], [2, 3, 2, 1])

    def test_turned_count(self):
        for corners in range(2, 9):
            for by in range(2 * corners + 1):
                due = len([cutting for cutting in all_cuttings(corners) if due_turned(cutting, by) == cutting])
                check_same(self, turned_count(corners, by), due)
                check_same(self, turned_count(corners, 10 ** 30 - 10 ** 30 % corners + by), due)
        check_same(self, [turned_count(9, 3), turned_count(9, 6), turned_count(9, 9)], [6, 6, 429])
        check_same(self, turned_count(12, 18), 252)
        check_same(self, [turned_count(60, by) for by in (1, 7, 12, 15, 45)], [0] * 5)
        # 10 ** 30 is 40 above a multiple of 60.
        check_same(self, turned_count(60, 10 ** 30 - 40), due_count(60))
        check_same(self, turned_count(60, 10 ** 30), 20 * due_count(21))
        check_same(self, turned_count(60, 10 ** 30 - 10), 30 * due_count(31))

    def test_parameters(self):
        for function in (least_turn, turn_order):
            check_parameters(self, function, {"cutting": HEX}, {"cutting": helpers.NOT_CUTTINGS})
        check_parameters(self, turned_count, {"corners": 6, "by": 0}, {"corners": NOT_CORNERS, "by": helpers.NOT_NUMBERS})


class TestQuiet(unittest.TestCase):
    def test_example(self):
        check_error(self, Beside, {"here": 0, "there": 4}, quiet_cutting, 5, (0, 3, 4))

    def test_ears(self):
        for cutting in SMALL + LONG + EDGES:
            if cutting[0] < 20:
                check_same(self, ears_of(cutting), tuple(at for at, price in enumerate(due_prices(cutting)) if price == 1))
        check_same(self, [ears_of((2, ())), ears_of((3, ())), ears_of(HEX), ears_of(FAN5)], [(), (0, 1, 2), (1, 3, 5), (0, 3)])

    def test_all_wishes_of_few_corners(self):
        for corners in range(2, 9):
            ears = [set(corner for corner, price in enumerate(due_prices(cutting)) if price == 1) for cutting in all_cuttings(corners)]
            for many in range(corners + 1):
                for quiet in combinations(range(corners), many):
                    self.check(corners, quiet, any(set(quiet) <= some for some in ears))

    def check(self, corners, quiet, due):
        self.assertIs(can_quiet(corners, quiet), due)
        if due:
            cutting = quiet_cutting(corners, quiet)
            self.assertIs(is_cutting(cutting), True)
            self.assertEqual(cutting[0], corners)
            self.assertTrue(all(due_prices(cutting)[corner] == 1 for corner in quiet))
        elif corners == 2:
            check_unusable(self, "quiet", -1, quiet_cutting, corners, quiet)
        else:
            beside = [pair for pair in combinations(quiet, 2) if is_side(corners, pair)]
            here, there = min(beside)
            check_error(self, Beside, {"here": here, "there": there}, quiet_cutting, corners, quiet)

    def test_many_corners(self):
        for corners in (59, 60):
            self.check(corners, (), True)
            self.check(corners, tuple(range(0, corners - 1, 2)), True)
            self.check(corners, (1, 7, 30, 58), True)
            self.check(corners, (1, 7, 8, 30, 31), False)
            self.check(corners, tuple(range(corners)), False)
        self.check(60, tuple(range(1, 60, 2)), True)
        check_error(self, Beside, {"here": 0, "there": 59}, quiet_cutting, 60, (0, 4, 5, 59))
        check_error(self, Beside, {"here": 0, "there": 1}, quiet_cutting, 60, tuple(range(60)))

    def test_edges(self):
        check_same(self, [can_quiet(2, ()), can_quiet(2, (0,)), can_quiet(3, (0, 1, 2)), can_quiet(4, (0, 1))],
                   [True, False, True, False])
        check_same(self, [quiet_cutting(2, ()), quiet_cutting(3, (0, 1, 2)), quiet_cutting(4, (0, 2)), quiet_cutting(4, (3,))],
                   [(2, ()), (3, ()), (4, ((1, 3),)), (4, ((0, 2),))])
        check_same(self, quiet_cutting(6, (1, 3, 5)), HEX)

    def test_parameters(self):
        not_quiet = helpers.NOT_LOTS + ((5,), (0, 5), (0, HUGE), [0])
        for function in (can_quiet, quiet_cutting):
            check_parameters(self, function, {"corners": 5, "quiet": (0, 2)}, {"corners": NOT_CORNERS, "quiet": not_quiet})
        check_parameters(self, quiet_cutting, {"corners": 2, "quiet": ()},
                         {"corners": NOT_CORNERS, "quiet": not_quiet + ((0,), (1,), (0, 1), (2,))})
        for function in (ears_of, worst_price):
            check_parameters(self, function, {"cutting": HEX}, {"cutting": helpers.NOT_CUTTINGS})


class TestLevel(unittest.TestCase):
    def test_worst_price(self):
        for cutting in SMALL + LONG[:2] + EDGES:
            check_same(self, worst_price(cutting), max(due_prices(cutting)))
        check_same(self, [worst_price((2, ())), worst_price((3, ())), worst_price(fan(60, 7))], [0, 1, 58])

    def test_few_corners(self):
        for corners in range(2, 10):
            due = tuple(cutting for cutting in all_cuttings(corners) if max(due_prices(cutting)) <= 3)
            check_same(self, level_cuttings(corners), due)
            check_same(self, level_count(corners), len(due))
        check_same(self, [level_count(corners) for corners in range(2, 9)], [1, 1, 2, 5, 8, 7, 8])
        self.assertIn(HEX, level_cuttings(6))
        self.assertIn(turned_cutting(HEX, 1), level_cuttings(6))

    def test_many_corners(self):
        for corners in (10, 13, 24, 60):
            found = level_cuttings(corners)
            check_same(self, level_count(corners), corners)
            self.assertEqual(list(found), sorted(set(found)))
            self.assertEqual(len(found), corners)
            for cutting in found:
                self.assertIs(is_cutting(cutting), True)
                self.assertLessEqual(worst_price(cutting), 3)

    def test_parameters(self):
        for function in (level_count, level_cuttings):
            check_parameters(self, function, {"corners": 2}, {"corners": NOT_CORNERS})


if __name__ == "__main__":
    unittest.main()
