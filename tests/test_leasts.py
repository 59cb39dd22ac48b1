"""[38] the least, [39] its bounds, and of [11] the guarantees (G3) and (G4)."""

import unittest

from tests import helpers
from tests.helpers import FORK, PAIR, check_parameters, check_queue_parameters, check_same, check_unusable, small_rows
from tests.queues import EDGES, LONG, SMALL, due_least, due_stand, fewest_cuts, fewest_lots, in_order
from tests.test_stands import due_can, due_gain, due_struck
from underthree.askchanges import merged, mirrored, stretched, without_ask
from underthree.bounds import club_many, club_sum, quick_bounds, sum_by, wide_count
from underthree.leastchanges import ask_falls, element_falls, worst_asks
from underthree.leasts import ask_least, element_least, least_of
from underthree.stands import stand_of

TINY = [row for row in small_rows(4, 5) if in_order(row)]
NOT_STRIKABLE = ("element", 4), ("element", 9), ("ask", 0, 2), ("ask", 0, 4), ("element", helpers.SIXTY)


def wide_lots(row):
    return [frozenset(range(low, high)) for low, high in row if high - low > 1]


def due_clubs(row):
    """The elements of the clubs of the wide asks, put together as long as two share an element."""
    clubs = []
    for lot in wide_lots(row):
        sharing = [club for club in clubs if club & lot]
        clubs = [club for club in clubs if not club & lot] + [lot.union(*sharing)]
    return clubs


class TestLeast(unittest.TestCase):
    def test_examples(self):
        check_same(self, (least_of(PAIR), least_of(FORK), element_least(PAIR, 3), ask_least(PAIR, 0)), (3, 7, 2, 2))

    def test_edges(self):
        for row, least in ((), 0), (((4, 5),), 0), (((0, 1), (1, 2)), 0), (((118, 120),), 1), (((0, 120),), 119), \
                (((0, 2), (2, 4), (6, 9)), 4), (((0, 2), (0, 3), (0, 4)), 3), (((0, 4), (1, 4), (2, 4)), 3), \
                (tuple((at, at + 2) for at in range(60)), 60), (tuple((at, at + 3) for at in range(60)), 90):
            check_same(self, least_of(row), least)

    def test_all_ways_of_small_rows(self):
        for row in SMALL + [row for row in EDGES[:17] if all(high - low < 9 for low, high in row)]:
            check_same(self, least_of(row), fewest_cuts(row))

    def test_no_unions_of_any_lots_make_do_with_fewer(self):
        for row in TINY:
            self.assertEqual(least_of(row), fewest_lots(row), row)
        for row in (((0, 3), (1, 4), (2, 5)), ((0, 3), (1, 5)), ((0, 2), (0, 4), (2, 5)), ((0, 5), (3, 5))):
            self.assertEqual(least_of(row), fewest_lots(row), row)

    def test_by_the_walk(self):
        for row in list(EDGES) + LONG:
            check_same(self, least_of(row), due_least(due_stand(row)))

    def test_element_least(self):
        for row in SMALL[::2] + list(EDGES[8:17]):
            stand = due_stand(row)
            for element in range(12):
                strike = ("element", element)
                if due_can(stand, strike):
                    check_same(self, element_least(row, element), due_least(due_struck(stand, strike)))
                else:
                    check_unusable(self, "element", -1, element_least, row, element)

    def test_ask_least(self):
        for row in SMALL + list(EDGES[:17]):
            for at in range(len(row)):
                check_same(self, ask_least(row, at), due_least(due_stand(row[:at] + row[at + 1:])))
            for at in (len(row), len(row) + 1, helpers.HUGE):
                check_unusable(self, "at", -1, ask_least, row, at)

    def test_parameters(self):
        check_queue_parameters(self, least_of, {"queue": PAIR}, {})
        check_queue_parameters(self, element_least, {"queue": PAIR, "element": 2},
                               {"element": helpers.NOT_NUMBERS + (4, 5, helpers.HUGE)})
        check_queue_parameters(self, ask_least, {"queue": PAIR, "at": 1}, {"at": helpers.NOT_NUMBERS + (2, helpers.HUGE)})
        # An element that lies in an ask, but in no wide one.
        check_unusable(self, "element", -1, element_least, ((0, 1), (2, 4)), 0)
        check_unusable(self, "element", -1, element_least, ((0, 1), (2, 4)), 1)
        check_unusable(self, "element", -1, element_least, ((0, 1), (2, 4)), 4)


class TestChanges(unittest.TestCase):
    def test_examples(self):
        check_same(self, (element_falls(PAIR), ask_falls(PAIR), worst_asks(PAIR)),
                   (((0, 1), (1, 1), (2, 1), (3, 1)), (1, 1), (0, 1)))

    def test_by_definition(self):
        for row in SMALL + list(EDGES[:17]):
            least = least_of(row)
            within = sorted(set().union(*wide_lots(row)))
            check_same(self, element_falls(row), tuple((element, least - element_least(row, element)) for element in within))
            falls = tuple(least - ask_least(row, at) for at in range(len(row)))
            check_same(self, ask_falls(row), falls)
            check_same(self, worst_asks(row), tuple(at for at in range(len(row)) if falls[at] == max(falls)))
            self.assertTrue(all(fall >= 0 for fall in falls))

    def test_long_row(self):
        row = EDGES[18]
        check_same(self, len(element_falls(row)), 118)
        check_same(self, ask_falls(row)[:3], tuple(least_of(row) - least_of(row[:at] + row[at + 1:]) for at in range(3)))

    def test_edges(self):
        for row in ((), ((0, 1),), ((3, 4), (5, 6))):
            check_same(self, element_falls(row), ())
            check_same(self, ask_falls(row), (0,) * len(row))
            check_same(self, worst_asks(row), tuple(range(len(row))))
        check_same(self, ask_falls(((0, 1), (0, 2))), (0, 1))
        check_same(self, worst_asks(((0, 1), (0, 2))), (1,))
        check_same(self, worst_asks(((0, 3), (5, 9), (20, 22))), (1,))

    def test_parameters(self):
        for function in (element_falls, ask_falls, worst_asks):
            check_queue_parameters(self, function, {"queue": PAIR}, {})


class TestBounds(unittest.TestCase):
    def test_examples(self):
        check_same(self, (club_sum(((0, 3), (1, 4), (5, 7))), quick_bounds(FORK)), (4, (6, 15)))
        check_same(self, sum_by(PAIR, (("element", 1), ("element", 2))), 3)

    def test_by_definition(self):
        rows = small_rows(5, 3) + [((0, 9), (1, 2), (3, 5), (8, 12)), ((0, 4), (1, 9), (2, 3), (9, 11))]
        for row in rows + list(EDGES) + LONG:
            clubs = due_clubs(row)
            due = (sum(map(len, clubs)) - len(clubs), len(wide_lots(row)), len(clubs))
            check_same(self, (club_sum(row), wide_count(row), club_many(row)), due)
            if in_order(row):
                check_same(self, quick_bounds(row), (max(due[:2]), 2 * due[0] + due[1] - 2 * due[2]))

    def test_the_least_keeps_the_bounds(self):
        for row in SMALL + list(EDGES) + LONG:
            low, high = quick_bounds(row)
            self.assertTrue(low <= least_of(row) <= high)

    def test_sum_by(self):
        for row in SMALL[::4] + [PAIR, FORK, ((0, 4), (1, 3))]:
            stand, strikes, total = due_stand(row), (), 0
            check_same(self, sum_by(row, ()), 0)
            for turn in range(20):
                open_ones = [strike for strike in [("element", at) for at in range(8)] + [("ask",) + ask for ask in stand[1]]
                             if due_can(stand, strike)]
                if not open_ones:
                    break
                strike = open_ones[turn * 3 % len(open_ones)]
                strikes += (strike,)
                total += due_gain(stand, strike)
                stand = due_struck(stand, strike)
                check_same(self, sum_by(row, strikes), total)

    def test_sum_by_errors(self):
        check_parameters(self, sum_by, {"asks": PAIR, "strikes": ()},
                         {"asks": helpers.NOT_ASKS, "strikes": helpers.NOT_TUPLES})
        for wrong in helpers.NOT_STRIKES + NOT_STRIKABLE:
            check_unusable(self, "strikes", 0, sum_by, PAIR, (wrong,))
            check_unusable(self, "strikes", 1, sum_by, PAIR, (("element", 0), wrong, wrong))
        check_unusable(self, "strikes", 1, sum_by, PAIR, (("element", 1), ("element", 1), None))

    def test_parameters(self):
        for function in (club_sum, wide_count, club_many):
            check_parameters(self, function, {"asks": ((0, 9), (1, 3))}, {"asks": helpers.NOT_ASKS})
        check_queue_parameters(self, quick_bounds, {"queue": PAIR}, {})


class TestGuarantees(unittest.TestCase):
    def test_mirrored_rows(self):
        for row in SMALL + list(EDGES) + LONG:
            self.assertEqual(least_of(mirrored(row, 120)), least_of(row))

    def test_stretched_rows(self):
        for row in SMALL + list(EDGES[:9]):
            counts = tuple((1, 3, 2, 1, 4)[at % 5] for at in range(120))
            lies_in = sorted(set().union(*[range(*ask) for ask in row]))
            grown = sum(counts[element] - 1 for element in lies_in)
            self.assertEqual(least_of(stretched(row, counts)), least_of(row) + grown)

    def test_a_further_ask_never_lowers_it(self):
        for row in SMALL[::3]:
            for low in range(6):
                for high in range(low + 1, 7):
                    more = merged(row, ((low, high),))
                    if in_order(more):
                        self.assertGreaterEqual(least_of(more), least_of(row))
        self.assertEqual(least_of(without_ask(FORK, 0)), ask_least(FORK, 0))

    def test_by_how_much_an_element_lowers_it(self):
        for row in SMALL + list(EDGES[8:17]):
            asks = [ask for ask in row if ask[1] - ask[0] > 1]
            for element, loss in element_falls(row):
                self.assertGreaterEqual(loss, due_gain(stand_of(row), ("element", element)))
                inside = [ask for ask in asks if ask[0] <= element < ask[1]]
                begins = [ask for ask in asks if ask[0] == element]
                ends = [ask for ask in asks if ask[1] == element + 1]
                if not any(high == element for _, high in asks):
                    self.assertLessEqual(loss, len(begins) + any(low < element for low, _ in inside))
                if not any(low == element + 1 for low, _ in asks):
                    self.assertLessEqual(loss, len(ends) + any(high > element + 1 for _, high in inside))


if __name__ == "__main__":
    unittest.main()
