"""[33] strikes and stands, [34] what strikes leave, [35] gains, [36] strike papers."""

import unittest
from itertools import combinations

from tests import helpers
from tests.helpers import FORK, PAIR, check_paper, check_parameters, check_same, check_unusable, small_rows
from underthree.gains import gain_of, labels_of, unlabelled
from underthree.stands import after_strikes, can_strike, stand_of, struck
from underthree.strikechecker import lets_strikes
from underthree.strikekinds import is_stand, is_strike

HOLES = ((0, 2, 5, 6, 9), ((0, 5), (0, 9), (2, 6), (5, 9)))


def small_stands():
    """All stands with at most five places, three asks and a hole at the second place."""
    stands = [((), ()), ((4,), ()), HOLES]
    for left in ((0, 2, 3), (0, 1, 2, 3), (1, 3, 4, 5, 8)):
        pairs = [pair for pair in combinations(left, 2) if any(pair[0] < place < pair[1] for place in left)]
        stands.extend((left, asks) for many in range(4) for asks in combinations(pairs, many))
    return stands


def all_strikes(stand):
    """All strikes of the elements and the asks of a stand, and more."""
    left, asks = stand
    strikes = [("element", place) for place in range(10)]
    strikes.extend(("ask", low, high) for low, high in combinations(range(10), 2))
    return strikes


def lots_in(stand):
    """The elements left in each wide ask."""
    left, asks = stand
    return [frozenset(place for place in left if low <= place < high) for low, high in asks]


def stand_with(left, lots):
    """The stand with these places and these asks, told by their elements."""
    asks = {(min(lot), min(place for place in left if place > max(lot))) for lot in lots if len(lot) >= 2}
    return (tuple(left), tuple(sorted(asks)))


def due_can(stand, strike):
    lots = lots_in(stand)
    if strike[0] == "element":
        return any(strike[1] in lot for lot in lots)
    if strike[1:] not in stand[1]:
        return False
    own = lots[stand[1].index(strike[1:])]
    return not any(own < lot for lot in lots)


def due_struck(stand, strike):
    left, asks = stand
    if strike[0] == "ask":
        return (left, tuple(ask for ask in asks if ask != strike[1:]))
    return stand_with([place for place in left if place != strike[1]], [lot - {strike[1]} for lot in lots_in(stand)])


def due_gain(stand, strike):
    if strike[0] == "ask":
        return 1
    lots = lots_in(stand)
    begins = 1 if any(min(lot) == strike[1] for lot in lots) else 0
    ends = 1 if any(max(lot) == strike[1] for lot in lots) else 0
    return max(1, begins + ends)


class TestKinds(unittest.TestCase):
    def test_example(self):
        check_same(self, (is_strike(("ask", 2, 2)), is_stand(((0, 1, 3), ((0, 3),)))), (False, True))

    def test_is_strike(self):
        for thing in (("element", 0), ("element", helpers.SIXTY), ("ask", 0, 1), ("ask", 3, helpers.SIXTY)):
            self.assertIs(is_strike(thing), True)
        for thing in helpers.NOT_STRIKES:
            self.assertIs(is_strike(thing=thing), False, thing)

    def test_is_stand(self):
        huge = helpers.SIXTY
        for thing in small_stands() + [stand_of(FORK), ((), ()), ((0, huge), ()), ((0, 5, huge), ((0, huge),)),
                                       ((1, 2, 3, 4), ((1, 4), (2, 4)))]:
            self.assertIs(is_stand(thing), True, thing)
        for thing in helpers.NOT_STANDS:
            self.assertIs(is_stand(thing=thing), False, thing)

    def test_is_stand_by_definition(self):
        left = (0, 2, 3, 5)
        pairs = [(low, high) for low in range(7) for high in range(7)]
        good = [(low, high) for low, high in pairs if low in left and high in left
                and any(low < place < high for place in left)]
        self.assertEqual(good, [(0, 3), (0, 5), (2, 5)])
        for one in pairs:
            self.assertIs(is_stand((left, (one,))), one in good)
            for other in pairs:
                self.assertIs(is_stand((left, (one, other))), one in good and other in good and one < other)

    def test_long_things(self):
        left = tuple(range(1800))
        asks = tuple((at, at + 2) for at in range(1500))
        self.assertIs(is_stand((left, asks)), True)
        self.assertIs(is_stand((left, asks + ((1798, 1800),))), False)


class TestStands(unittest.TestCase):
    def test_examples(self):
        check_same(self, (stand_of(()), stand_of(((2, 3),))), (((0,), ()), ((0, 1, 2, 3), ())))
        check_same(self, struck(stand_of(PAIR), ("element", 1)), ((0, 2, 3, 4), ((0, 3), (2, 4))))
        got = (can_strike(stand_of(FORK), ("ask", 1, 4)), can_strike(stand_of(FORK), ("ask", 1, 6)))
        check_same(self, got, (False, True))

    def test_stand_of(self):
        for row in small_rows(4, 3):
            top = max([high for _, high in row], default=0)
            due = (tuple(range(top + 1)), tuple(ask for ask in row if ask[1] - ask[0] > 1))
            check_same(self, stand_of(row), due)
            self.assertIs(is_stand(stand_of(row)), True)

    def test_each_strike(self):
        for stand in small_stands():
            for strike in all_strikes(stand):
                due = due_can(stand, strike)
                self.assertIs(can_strike(stand, strike), due, (stand, strike))
                if not due:
                    check_unusable(self, "strike", -1, struck, stand, strike)
                    check_unusable(self, "strike", -1, gain_of, stand, strike)
                    continue
                check_same(self, struck(stand, strike), due_struck(stand, strike))
                check_same(self, gain_of(stand, strike), due_gain(stand, strike))
                self.assertIs(is_stand(struck(stand, strike)), True)

    def test_alike_asks_and_asks_without_a_place_between(self):
        stand = stand_of(((0, 3), (0, 4), (1, 4), (2, 4)))
        check_same(self, struck(stand, ("element", 3)), ((0, 1, 2, 4), ((0, 4), (1, 4))))
        check_same(self, struck(stand, ("element", 0)), ((1, 2, 3, 4), ((1, 3), (1, 4), (2, 4))))
        check_same(self, struck(stand_of(((0, 2),)), ("element", 0)), ((1, 2), ()))
        check_same(self, struck(stand_of(((0, 2),)), ("element", 1)), ((0, 2), ()))
        check_same(self, struck(HOLES, ("element", 5)), ((0, 2, 6, 9), ((0, 6), (0, 9))))

    def test_not_to_be_struck(self):
        stand = stand_of(((0, 3), (1, 4), (1, 5)))
        for strike in (("element", 5), ("element", 9), ("ask", 1, 4), ("ask", 0, 2), ("ask", 0, 4), ("ask", 1, 9)):
            self.assertIs(can_strike(stand, strike), False)
        for strike in (("element", 0), ("element", 4), ("ask", 0, 3), ("ask", 1, 5)):
            self.assertIs(can_strike(stand, strike), True)
        self.assertIs(can_strike(stand_of(PAIR), ("element", 4)), False)
        self.assertIs(can_strike(stand_of(((2, 4),)), ("element", 0)), False)
        self.assertIs(can_strike(HOLES, ("element", 3)), False)
        self.assertIs(can_strike(stand_of(((0, 1),)), ("ask", 0, 1)), False)

    def test_after_strikes(self):
        stand = stand_of(FORK)
        check_same(self, after_strikes(stand, ()), stand)
        strikes = (("element", 3), ("ask", 1, 6), ("element", 0), ("element", 5))
        due = stand
        for many, strike in enumerate(strikes, 1):
            due = due_struck(due, strike)
            check_same(self, after_strikes(stand, strikes[:many]), due)

    def test_after_strikes_errors(self):
        stand = stand_of(PAIR)
        for wrong in helpers.NOT_STRIKES + (("element", 4), ("ask", 0, 2), ("ask", 0, 4)):
            check_unusable(self, "strikes", 0, after_strikes, stand, (wrong,))
            check_unusable(self, "strikes", 0, after_strikes, stand, (wrong, None))
            check_unusable(self, "strikes", 1, after_strikes, stand, (("element", 0), wrong, wrong))
        check_unusable(self, "strikes", 1, after_strikes, stand, (("element", 1), ("element", 1)))
        check_unusable(self, "strikes", 1, after_strikes, stand, (("ask", 0, 3), ("ask", 0, 3)))
        check_unusable(self, "strikes", 2, after_strikes, stand, (("element", 1), ("element", 2), ("element", 0)))

    def test_parameters(self):
        not_stands = helpers.NOT_STANDS
        check_parameters(self, stand_of, {"asks": PAIR}, {"asks": helpers.NOT_ASKS})
        good = {"stand": stand_of(PAIR), "strike": ("element", 2)}
        check_parameters(self, can_strike, good, {"stand": not_stands, "strike": helpers.NOT_STRIKES})
        for function in (struck, gain_of):
            barred = helpers.NOT_STRIKES + (("element", 4), ("ask", 0, 2), ("ask", 0, 4))
            check_parameters(self, function, good, {"stand": not_stands, "strike": barred})
        check_parameters(self, after_strikes, {"stand": stand_of(PAIR), "strikes": ()},
                         {"stand": not_stands, "strikes": helpers.NOT_TUPLES})
        for function in (labels_of, unlabelled):
            check_parameters(self, function, {"stand": HOLES}, {"stand": not_stands})


class TestGains(unittest.TestCase):
    def test_examples(self):
        check_same(self, (gain_of(stand_of(FORK), ("element", 3)), gain_of(stand_of(FORK), ("element", 4))), (2, 1))
        check_same(self, (labels_of(stand_of(((0, 2),))), unlabelled(stand_of(PAIR))),
                   (((0, 1, 0), (1, 0, 0), (2, 0, 1)), (2,)))

    def test_gains(self):
        stand = stand_of(FORK)
        check_same(self, [gain_of(stand, ("element", at)) for at in range(7)], [1, 2, 1, 2, 1, 1, 1])
        check_same(self, gain_of(stand, ("ask", 1, 6)), 1)
        # The next place left behind element 0 is 2, where an ask ends.
        check_same(self, gain_of(((0, 2, 5, 6), ((0, 5),)), ("element", 2)), 1)
        check_same(self, gain_of(((0, 1, 3, 4), ((0, 3), (1, 4))), ("element", 1)), 2)

    def test_labels(self):
        for stand in small_stands():
            left, asks = stand
            due = tuple((place, len([ask for ask in asks if ask[0] == place]), len([ask for ask in asks if ask[1] == place]))
                        for place in left)
            check_same(self, labels_of(stand), due)
            due = tuple(place for place in left if any(low < place < high for low, high in asks)
                        and not any(place in ask for ask in asks))
            check_same(self, unlabelled(stand), due)
        check_same(self, [labels_of(((), ())), unlabelled(((), ()))], [(), ()])
        check_same(self, labels_of(HOLES), ((0, 2, 0), (2, 1, 0), (5, 1, 1), (6, 0, 1), (9, 0, 2)))
        # A place outside of all wide asks is not told, nor one at their begins and ends.
        check_same(self, unlabelled(stand_of(((1, 4), (4, 6), (8, 9)))), (2, 3, 5))


class TestPapers(unittest.TestCase):
    def test_example(self):
        check_same(self, lets_strikes(PAIR, ((("ask", 0, 3), 1), (("element", 2), 1))), 2)

    def test_all_short_papers(self):
        for row in ((), ((0, 1),), PAIR, ((0, 3), (0, 4)), ((0, 2), (1, 4), (2, 4)), ((0, 4), (1, 3))):
            papers = [((), stand_of(row), 0)]
            for _ in range(3):
                longer = []
                for paper, stand, total in papers:
                    check_same(self, lets_strikes(row, paper), total)
                    for strike in [("element", at) for at in range(6)] + [("ask", *pair) for pair in combinations(range(6), 2)]:
                        if not due_can(stand, strike):
                            check_paper(self, "strike", len(paper), lets_strikes, row, paper + ((strike, 1),))
                            continue
                        gain = due_gain(stand, strike)
                        for wrong in (gain - 1, gain + 1, 0, -gain, helpers.SIXTY):
                            if wrong != gain:
                                check_paper(self, "gain", len(paper), lets_strikes, row, paper + ((strike, wrong), None))
                        longer.append((paper + ((strike, gain),), due_struck(stand, strike), total + gain))
                papers = longer[::3]

    def test_shape(self):
        good = (("element", 2), 1)
        for thing in helpers.NOT_TUPLES:
            check_paper(self, "shape", -1, lets_strikes, PAIR, thing)
        for wrong in helpers.NOT_TUPLES + ((), (("element", 2),), (("element", 2), 1, 1), [("element", 2), 1]):
            check_paper(self, "shape", 0, lets_strikes, PAIR, (wrong,))
            check_paper(self, "shape", 1, lets_strikes, PAIR, (good, wrong, wrong))
        for wrong in helpers.NOT_STRIKES:
            check_paper(self, "shape", 1, lets_strikes, PAIR, (good, (wrong, 1)))
        for wrong in helpers.NOT_INTEGERS:
            check_paper(self, "shape", 1, lets_strikes, PAIR, (good, (("element", 1), wrong)))

    def test_first_of_two_faults(self):
        check_paper(self, "shape", 0, lets_strikes, PAIR, ((("element", 9), True), None))
        check_paper(self, "strike", 0, lets_strikes, PAIR, ((("element", 9), 7), None))
        check_paper(self, "gain", 0, lets_strikes, PAIR, ((("element", 1), 2), None))
        check_paper(self, "gain", 0, lets_strikes, PAIR, ((("element", 1), 2), (("element", 1), 1)))
        check_paper(self, "strike", 1, lets_strikes, PAIR, ((("element", 1), 1), (("element", 1), 0)))
        check_paper(self, "gain", 1, lets_strikes, PAIR, ((("element", 2), 1), (("element", 1), 1), (None, 1)))

    def test_beyond_the_limits(self):
        check_paper(self, "strike", 0, lets_strikes, PAIR, ((("element", helpers.SIXTY), 1),))
        check_paper(self, "strike", 0, lets_strikes, PAIR, ((("ask", 0, helpers.SIXTY), 1),))
        row = tuple((at, at + 61) for at in range(60))
        check_same(self, lets_strikes(row, ((("element", 60), 1), (("element", 0), 1), (("ask", 1, 62), 1))), 3)

    def test_asks_may_be_left(self):
        check_same(self, lets_strikes(FORK, ()), 0)
        check_same(self, lets_strikes((), ()), 0)

    def test_parameters(self):
        check_parameters(self, lets_strikes, {"asks": PAIR, "thing": ()}, {"asks": helpers.NOT_ASKS, "thing": ()})


if __name__ == "__main__":
    unittest.main()
