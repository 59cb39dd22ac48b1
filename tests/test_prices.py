"""[56] prices and ear papers, and of [11] what (G8) says of them."""

import unittest
from itertools import permutations, product

from tests import helpers
from tests.cuttings import EDGES, LONG, SMALL, all_cuttings, due_prices
from tests.helpers import FAN5, HEX, check_error, check_paper, check_parameters, check_same
from underthree.cornerprices import chords_at, cutting_by, has_cutting, prices_of
from underthree.earpapers import ear_paper, lets_ears
from underthree.errors import NoCutting

HUGE = helpers.SIXTY
NOT_PRICES = helpers.NOT_TUPLES + (
    (), (1,), (1, 1), [1, 1, 1], (1, 1, 0), (0, 1, 1), (1, -1, 1), (1, True, 1), (1, 1, "1"), (1, None, 1), (1, 1, (1,)), (1, 1, [1]),
    (1, 2, 1, False), (1, 1, 1, None),
)


def due_left(prices):
    """What is left of the prices, by the words of [56]."""
    row = list(prices)
    while len(row) >= 4 and 1 in row:
        first = row.index(1)
        beside = {(first - 1) % len(row), (first + 1) % len(row)}
        if any(row[at] == 1 for at in beside):
            break
        row = [price - 1 if at in beside else price for at, price in enumerate(row) if at != first]
    return tuple(row)


def with_prices(prices):
    """The cuttings that have the prices, of all cuttings."""
    return [cutting for cutting in all_cuttings(len(prices)) if due_prices(cutting) == prices]


class TestPrices(unittest.TestCase):
    def test_examples(self):
        check_same(self, (prices_of(FAN5), cutting_by((3, 1, 3, 1, 3, 1)) == HEX), ((1, 2, 2, 1, 3), True))
        check_error(self, NoCutting, {"left": (1, 2, 1)}, cutting_by, (1, 2, 2, 2))

    def test_by_definition(self):
        for cutting in SMALL + EDGES + LONG[:3]:
            check_same(self, prices_of(cutting), due_prices(cutting))
            for corner in range(cutting[0]):
                check_same(self, chords_at(cutting, corner), len([chord for chord in cutting[1] if corner in chord]))

    def test_edges(self):
        check_same(self, [prices_of((2, ())), chords_at((2, ()), 1), prices_of((3, ())), chords_at((3, ()), 0)],
                   [(0, 0), 0, (1, 1, 1), 0])
        check_same(self, prices_of((4, ((1, 3),))), (1, 2, 1, 2))

    def test_sum_of_prices(self):
        for cutting in SMALL + LONG:
            if cutting[0] > 2:
                self.assertEqual(sum(prices_of(cutting)), 3 * (cutting[0] - 2))

    def test_parameters(self):
        check_parameters(self, prices_of, {"cutting": HEX}, {"cutting": helpers.NOT_CUTTINGS})
        check_parameters(self, chords_at, {"cutting": HEX, "corner": 5},
                         {"cutting": helpers.NOT_CUTTINGS, "corner": helpers.NOT_NUMBERS + (6, HUGE)})


class TestCuttingBy(unittest.TestCase):
    def check(self, prices):
        found = with_prices(prices) if len(prices) < 8 else []
        left = due_left(prices)
        self.assertEqual(left == (1, 1, 1), len(found) == 1, prices)
        self.assertIs(has_cutting(prices), len(found) == 1)
        if found:
            check_same(self, cutting_by(prices), found[0])
        else:
            check_error(self, NoCutting, {"left": left}, cutting_by, prices)

    def test_all_small_rows(self):
        for many, most in ((3, 3), (4, 4), (5, 4), (6, 4)):
            for prices in product(range(1, most + 1), repeat=many):
                self.check(prices)

    def test_there_and_back(self):
        for cutting in SMALL + LONG:
            if cutting[0] > 2:
                check_same(self, cutting_by(prices_of(cutting)), cutting)
                self.assertIs(has_cutting(prices=prices_of(cutting)), True)

    def test_rows_without_a_cutting(self):
        for prices, left in (
            ((2, 2, 2, 2), (2, 2, 2, 2)), ((2, 3, 4, 5, 6), (2, 3, 4, 5, 6)),
            ((1, 1, 2, 2), (1, 1, 2, 2)), ((2, 1, 1, 2), (2, 1, 1, 2)), ((1, 2, 2, 1), (1, 2, 2, 1)),
            ((1, 2, 3, 2, 1), (1, 2, 3, 2, 1)), ((3, 1, 2, 1, 2), (2, 1, 1, 2)), ((1, 1, 1, 1), (1, 1, 1, 1)),
            ((1, 1, 2), (1, 1, 2)), ((2, 2, 2), (2, 2, 2)), ((5, HUGE, 1), (5, HUGE, 1)), ((1, HUGE, 2, 2), (HUGE - 1, 2, 1)),
            # The first 1 has a 1 beside it round the end, though another 1 has none.
            ((1, 3, 1, 3, 1), (1, 3, 1, 3, 1)), ((2, 2, 1, 3, 1, 1), (1, 1, 1, 1)),
        ):
            self.assertEqual(due_left(prices), left)
            self.assertIs(has_cutting(prices), False)
            check_error(self, NoCutting, {"left": left}, cutting_by, prices)

    def test_parameters(self):
        for function in (cutting_by, has_cutting):
            check_parameters(self, function, {"prices": (1, 1, 1)}, {"prices": NOT_PRICES})


class TestEars(unittest.TestCase):
    def test_examples(self):
        check_same(self, (ear_paper(HEX), lets_ears((1, 2, 2, 1, 3), (3, 0)) == FAN5), ((1, 3, 2), True))

    def test_ear_paper(self):
        for cutting in SMALL + EDGES + LONG:
            names, prices, due = list(range(cutting[0])), list(prices_of(cutting)), []
            while len(names) > 3:
                at = prices.index(1)
                due.append(names[at])
                prices[at - 1] -= 1
                prices[(at + 1) % len(prices)] -= 1
                del names[at], prices[at]
            check_same(self, ear_paper(cutting), tuple(due))
            if cutting[0] > 2:
                check_same(self, lets_ears(prices_of(cutting), ear_paper(cutting)), cutting)

    def due(self, prices, thing):
        """The cutting, or the word and the place of the fault."""
        names, row, chords = list(range(len(prices))), dict(enumerate(prices)), []
        for at, corner in enumerate(thing):
            if corner not in names:
                return ("corner", at)
            if len(names) == 3:
                return ("few", at)
            place = names.index(corner)
            beside = names[place - 1], names[(place + 1) % len(names)]
            if row[corner] != 1 or 1 in (row[beside[0]], row[beside[1]]):
                return ("ear", at)
            for other in beside:
                row[other] -= 1
            names.remove(corner)
            chords.append(tuple(sorted(beside)))
        if len(names) > 3 or [row[corner] for corner in names] != [1, 1, 1]:
            return ("end", -1)
        return (len(prices), tuple(sorted(chords)))

    def test_all_papers_of_small_rows(self):
        rows = [prices for many in (3, 4) for prices in product((1, 2, 3), repeat=many)]
        rows += [(1, 2, 2, 1, 3), (2, 1, 3, 1, 2), (1, 3, 1, 2, 2), (1, 2, 3, 1, 3), (3, 1, 3, 1, 3, 1), (1, 2, 2, 2, 1, 4), (1, 1, 5, 2, 2)]
        for prices in rows:
            corners = range(len(prices) + 1)
            for many in range(len(prices) - 1 if len(prices) < 6 else 4):
                for thing in product(corners, repeat=many):
                    due = self.due(prices, thing)
                    if isinstance(due[1], tuple):
                        check_same(self, lets_ears(prices, thing), due)
                    else:
                        check_paper(self, *due, lets_ears, prices, thing)

    def test_whichever_ear_is_cut_off(self):
        for cutting in SMALL[::5] + (HEX,):
            prices = prices_of(cutting)
            for thing in permutations(range(cutting[0]), max(0, cutting[0] - 3)):
                due = self.due(prices, thing) if cutting[0] > 2 else None
                if due is not None and isinstance(due[1], tuple):
                    self.assertEqual(due, cutting)
                    check_same(self, lets_ears(prices, thing), cutting)

    def test_faults(self):
        for wrong in helpers.NOT_TUPLES:
            check_paper(self, "shape", -1, lets_ears, (1, 1, 1), wrong)
        prices = prices_of(HEX)
        for wrong in helpers.NOT_NUMBERS + (6, HUGE, 1.5):
            check_paper(self, "corner", 0, lets_ears, prices, (wrong,))
            check_paper(self, "corner", 1, lets_ears, prices, (1, wrong, wrong))
        check_paper(self, "corner", 1, lets_ears, prices, (1, 1))
        # All three that are left are ears, but none can go.
        check_paper(self, "few", 3, lets_ears, prices, (1, 3, 2, 0))
        check_paper(self, "corner", 3, lets_ears, prices, (1, 3, 2, 3))
        check_paper(self, "few", 0, lets_ears, (1, 1, 1), (2, None))
        check_paper(self, "few", 0, lets_ears, (5, 5, 5), (2,))
        check_paper(self, "ear", 0, lets_ears, prices, (0, 9))
        check_paper(self, "ear", 1, lets_ears, prices, (1, 0))
        check_paper(self, "ear", 0, lets_ears, (1, 1, 2, 2), (0,))
        check_paper(self, "ear", 0, lets_ears, (1, 2, 2, 1), (0,))
        check_paper(self, "ear", 0, lets_ears, (1, 2, 2, 1), (3,))
        check_paper(self, "end", -1, lets_ears, prices, ())
        check_paper(self, "end", -1, lets_ears, prices, (1, 3))
        check_paper(self, "end", -1, lets_ears, (1, 2, 2, 2), (0,))
        check_paper(self, "end", -1, lets_ears, (1, 1, HUGE), ())
        # Other papers than ear_paper's do, too, and another row for the same corners does not.
        check_same(self, lets_ears(prices, (5, 1, 0)), HEX)
        check_same(self, lets_ears(prices, (5, 3, 1)), HEX)

    def test_parameters(self):
        check_parameters(self, ear_paper, {"cutting": HEX}, {"cutting": helpers.NOT_CUTTINGS})
        check_parameters(self, lets_ears, {"prices": (1, 1, 1), "thing": ()}, {"prices": NOT_PRICES, "thing": ()})


if __name__ == "__main__":
    unittest.main()
