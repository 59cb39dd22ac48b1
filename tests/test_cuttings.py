"""[53] cuttings and their checker, [54] how many there are and their numbers, [55] neighbours and triangles."""

import unittest
from itertools import combinations, product

from tests import helpers
from tests.cuttings import (
    EDGES, LONG, SMALL, all_cuttings, are_joined, crosses, due_count, due_neighbours, due_number, due_triangles, is_side,
)
from tests.helpers import FAN5, HEX, check_paper, check_parameters, check_same, check_unusable
from underthree.catalans import catalan, choose
from underthree.cutnumbers import cutting_at, cutting_count, number_of
from underthree.cuttingkinds import is_cutting, lets_cutting
from underthree.neighbours import neighbours_of, thirds_of, triangles_of

HUGE = helpers.SIXTY


def due_fault(corners, chords):
    """The first fault of a tuple of pairs of numbers, by the words of [53]; None without one."""
    for at, (low, high) in enumerate(chords):
        if not low < high < corners or is_side(corners, (low, high)):
            return ("chord", at)
        if at > 0 and (low, high) <= chords[at - 1]:
            return ("order", at)
        if any(crosses((low, high), earlier) for earlier in chords[:at]):
            return ("cross", at)
    return ("many", -1) if len(chords) < corners - 3 else None


class TestKinds(unittest.TestCase):
    def test_is_cutting(self):
        for thing in SMALL + LONG + EDGES + (FAN5, HEX):
            self.assertIs(is_cutting(thing=thing), True, thing)
            check_same(self, lets_cutting(thing=thing), len(thing[1]))
        for thing in helpers.NOT_CUTTINGS:
            self.assertIs(is_cutting(thing), False, thing)

    def test_all_tuples_of_pairs(self):
        for corners in range(2, 6):
            pairs = list(product(range(corners + 1), repeat=2))
            for many in range(3):
                for chords in product(pairs, repeat=many):
                    self.check((corners, chords))

    def test_three_chords(self):
        pairs = [pair for pair in combinations(range(6), 2)]
        for chords in product(pairs, repeat=3):
            self.check((6, chords))

    def check(self, thing):
        fault = due_fault(*thing)
        self.assertIs(is_cutting(thing), fault is None, thing)
        if fault is None:
            check_same(self, lets_cutting(thing), len(thing[1]))
        else:
            check_paper(self, *fault, lets_cutting, thing)

    def test_shape_corners_chords(self):
        for wrong in helpers.NOT_TUPLES + ((), (3,), (3, (), ()), [3, ()]):
            check_paper(self, "shape", -1, lets_cutting, wrong)
        for wrong in helpers.NOT_CORNERS:
            check_paper(self, "corners", -1, lets_cutting, (wrong, ()))
            check_paper(self, "corners", -1, lets_cutting, (wrong, None))
        for wrong in helpers.NOT_TUPLES:
            check_paper(self, "chords", -1, lets_cutting, (5, wrong))

    def test_wrong_chords(self):
        for wrong in helpers.NOT_STRETCHES + ((0, 1), (3, 4), (0, 4), (2, 5), (5, 6), (4, 1), (1, HUGE)):
            check_paper(self, "chord", 0, lets_cutting, (5, (wrong,)))
            check_paper(self, "chord", 1, lets_cutting, (5, ((0, 2), wrong, wrong)))

    def test_first_of_two_faults(self):
        check_paper(self, "chord", 1, lets_cutting, (6, ((1, 3), (0, 1), (0, 0))))
        check_paper(self, "order", 1, lets_cutting, (6, ((1, 3), (0, 2), (0, 1))))
        check_paper(self, "order", 1, lets_cutting, (6, ((1, 3), (1, 3))))
        check_paper(self, "cross", 1, lets_cutting, (6, ((0, 2), (1, 3), (0, 1))))
        check_paper(self, "cross", 2, lets_cutting, (6, ((0, 2), (0, 3), (1, 4))))
        check_paper(self, "many", -1, lets_cutting, (6, ((0, 2), (0, 3))))
        check_paper(self, "many", -1, lets_cutting, (4, ()))

    def test_beyond_the_limits(self):
        check_paper(self, "many", -1, lets_cutting, (HUGE, ()))
        check_paper(self, "many", -1, lets_cutting, (HUGE, ((0, 2), (5, HUGE - 1))))
        check_paper(self, "chord", 0, lets_cutting, (HUGE, ((0, HUGE - 1),)))
        check_paper(self, "chord", 0, lets_cutting, (HUGE, ((5, HUGE),)))
        check_paper(self, "cross", 1, lets_cutting, (HUGE, ((0, HUGE - 5), (3, HUGE - 4))))
        many = 1500
        fan = (many, tuple((0, other) for other in range(2, many - 1)))
        check_same(self, lets_cutting(fan), many - 3)
        check_paper(self, "cross", many - 3, lets_cutting, (many, fan[1] + ((1, 3),)))


class TestNumbers(unittest.TestCase):
    def test_examples(self):
        check_same(self, (catalan(4), choose(4, 2), choose(2, 3)), (14, 6, 0))
        check_same(self, (cutting_at(4, 1), number_of(FAN5), number_of(HEX)), ((4, ((0, 2),)), 0, 11))

    def test_catalan(self):
        due = [1]
        for many in range(1, 121):
            due.append(sum(due[at] * due[many - 1 - at] for at in range(many)))
        check_same(self, [catalan(many) for many in range(121)], due)

    def test_choose(self):
        row = [1]
        for many in range(121):
            check_same(self, [choose(many, few) for few in range(many + 2)], row + [0])
            check_same(self, choose(many, helpers.HUGE), 0)
            row = [one + other for one, other in zip([0] + row, row + [0])]

    def test_cutting_count(self):
        for corners in range(2, 9):
            check_same(self, cutting_count(corners), len(all_cuttings(corners)))
        for corners in range(2, 61):
            check_same(self, cutting_count(corners), due_count(corners))
            check_same(self, cutting_count(corners), catalan(corners - 2))

    def test_each_number_of_few_corners(self):
        for corners in range(2, 9):
            cuttings = all_cuttings(corners)
            found = [cutting_at(corners, number) for number in range(len(cuttings))]
            check_same(self, tuple(sorted(found)), cuttings)
            for number, cutting in enumerate(found):
                check_same(self, number_of(cutting), number)
                self.assertEqual(due_number(cutting), number)
            check_unusable(self, "number", -1, cutting_at, corners, len(cuttings))

    def test_many_corners(self):
        for cutting in LONG:
            number = number_of(cutting)
            self.assertEqual(number, due_number(cutting))
            check_same(self, cutting_at(cutting[0], number), cutting)
        count = due_count(60)
        for number in (0, 1, count // 3, 10 ** 30, count - 2, count - 1):
            self.assertIs(is_cutting(cutting_at(60, number)), True)
            check_same(self, number_of(cutting_at(60, number)), number)
        check_same(self, cutting_at(60, 0), (60, tuple((at, 59) for at in range(1, 58))))
        check_same(self, cutting_at(60, count - 1), (60, tuple((0, at) for at in range(2, 59))))

    def test_parameters(self):
        check_parameters(self, catalan, {"many": 3}, {"many": helpers.NOT_NUMBERS})
        check_parameters(self, choose, {"many": 3, "few": 2}, {"many": helpers.NOT_NUMBERS, "few": helpers.NOT_NUMBERS})
        check_parameters(self, cutting_count, {"corners": 2}, {"corners": helpers.NOT_CORNERS})
        check_parameters(self, cutting_at, {"corners": 5, "number": 4},
                         {"corners": helpers.NOT_CORNERS, "number": helpers.NOT_NUMBERS + (5, 6, helpers.HUGE)})
        check_parameters(self, number_of, {"cutting": HEX}, {"cutting": helpers.NOT_CUTTINGS})


class TestNeighbours(unittest.TestCase):
    def test_examples(self):
        check_same(self, (neighbours_of(HEX, 0), thirds_of(HEX, 0, 4)), ((1, 2, 4, 5), (2, 5)))

    def test_by_definition(self):
        for cutting in SMALL[::2] + EDGES + LONG[:3]:
            corners = cutting[0]
            check_same(self, triangles_of(cutting), due_triangles(cutting))
            for one in range(corners):
                check_same(self, neighbours_of(cutting, one), due_neighbours(cutting, one))
                for other in range(corners):
                    if not are_joined(cutting, one, other):
                        check_unusable(self, "other", -1, thirds_of, cutting, one, other)
                        continue
                    due = tuple(third for third in range(corners) if tuple(sorted((one, other, third))) in due_triangles(cutting))
                    check_same(self, thirds_of(cutting, one, other), due)

    def test_edges(self):
        two, three = (2, ()), (3, ())
        check_same(self, [neighbours_of(two, 0), neighbours_of(two, 1), triangles_of(two)], [(1,), (0,), ()])
        check_same(self, [thirds_of(two, 0, 1), thirds_of(two, 1, 0)], [(), ()])
        check_same(self, [neighbours_of(three, 1), triangles_of(three), thirds_of(three, 2, 0)], [(0, 2), ((0, 1, 2),), (1,)])

    def test_sixty_corners(self):
        for cutting in LONG:
            self.assertEqual(len(triangles_of(cutting)), cutting[0] - 2)
            for one, other in cutting[1]:
                self.assertEqual(len(thirds_of(cutting, one, other)), 2)
            self.assertEqual(len(thirds_of(cutting, 0, cutting[0] - 1)), 1)

    def test_parameters(self):
        cuttings = helpers.NOT_CUTTINGS
        not_corners = helpers.NOT_NUMBERS + (6, 7, HUGE)
        check_parameters(self, neighbours_of, {"cutting": HEX, "corner": 5}, {"cutting": cuttings, "corner": not_corners})
        check_parameters(self, triangles_of, {"cutting": HEX}, {"cutting": cuttings})
        check_parameters(self, thirds_of, {"cutting": HEX, "one": 0, "other": 5},
                         {"cutting": cuttings, "one": not_corners, "other": not_corners + (0, 3)})


if __name__ == "__main__":
    unittest.main()
