"""[40] the excess, and of [11] the guarantees (G2) and (G5)."""

import unittest

from tests import helpers
from tests.helpers import FORK, LAP, PAIR, PLAN3, check_parameters, check_queue_parameters, check_same, check_unusable
from tests.plans import WASTE, first_wrong, left_to_right, overlapping, right_to_left, words_of
from tests.queues import EDGES, SMALL, due_stand, due_walk
from tests.test_families import NOT_FAMILIES
from tests.test_stands import HOLES, all_strikes, due_can, small_stands
from underthree.excesses import excess_of, excess_rows, fall_of
from underthree.leasts import least_of
from underthree.planchanges import beside_plan
from underthree.stands import stand_of
from underthree.turning import turning_cuts
from underthree.cutplans import plan_by
from underthree.making import cuts_by

WAYS = (left_to_right, right_to_left, overlapping)
FAMILIES = (
    (), ((0, 1),), ((0, 1), (0, 1, 2), (1, 2), (1, 2, 3)), ((0, 1), (0, 2), (1, 2), (2, 3), (3, 4)),
    ((0, 1, 2), (0, 1, 2, 3), (0, 3), (1, 2), (2, 3, 4), (3, 4)), ((0, 9), (1, 2, 3, 4), (7, 8)), ((0, 2), (0, 2, 5), (2, 5), (5, 6)),
)
# Plans that are right for "same" at least, each with the row of its answers.
STRANGE = (
    (PLAN3, PAIR), (WASTE, PAIR), (LAP, ((0, 3),)), ((4, ((2, 1), (0, 4), (3, 4), (1, 0), (6, 5)), (5, 6)), PAIR),
    ((4, ((0, 1), (1, 2), (4, 5), (2, 3), (5, 7)), (6, 8)), PAIR), ((4, ((0, 2), (1, 3), (4, 1), (5, 2), (0, 3)), (6, 7)), PAIR),
    ((5, ((0, 0), (1, 1), (0, 1), (7, 7), (7, 2), (9, 9), (3, 4)), (9,)), ((0, 3),)),
    ((3, ((0, 1), (1, 0), (0, 2)), (3,)), ((0, 2),)), ((6, ((4, 5), (5, 4), (6, 3)), ()), ()),
    ((6, ((4, 5), (0, 1), (0, 0)), (2,)), ((2, 3),)),
)
NOT_RIGHT = ((0, 3),), ((0, 3), (1, 5)), ((0, 2), (1, 4)), (), ((0, 3), (1, 3))


def lies_in(lot, ask):
    return all(ask[0] <= element < ask[1] for element in lot)


def due_fall(family, stand, strike):
    """The fall by the words of [7]."""
    if strike[0] == "ask":
        others = [ask for ask in stand[1] if ask != strike[1:]]
        return len([lot for lot in family if lies_in(lot, strike[1:]) and not any(lies_in(lot, ask) for ask in others)])
    element = strike[1]
    every = {frozenset(lot) for lot in family}
    elements = {other for lot in family for other in lot} | {element + 1}
    partners = {lot for lot in every | {frozenset([other]) for other in elements}
                if element not in lot and lot | {element} in every}
    return len(partners)


def due_left(family, stand, strike):
    if strike[0] == "ask":
        others = [ask for ask in stand[1] if ask != strike[1:]]
        return {lot for lot in family if any(lies_in(lot, ask) for ask in others)}
    return {lot - {strike[1]} for lot in family if len(lot - {strike[1]}) > 1}


def due_excess(plan, row):
    """The rows, the repeats and the strays of a plan, by its words."""
    wide = [ask for ask in row if ask[1] - ask[0] > 1]
    lots = [frozenset(word) for word in words_of(plan)]
    family = {lot for lot in lots if len(lot) > 1 and any(lies_in(lot, ask) for ask in wide)}
    rows = []
    for stand, _, strike, gain in due_walk(due_stand(row)):
        rows.append((strike, due_fall(family, stand, strike) - gain))
        family = due_left(family, stand, strike)
    joins = lots[plan[0]:]
    repeats = [at for at, lot in enumerate(joins) if len(lot) == 1 or lot in joins[:at]]
    strays = [at for at, lot in enumerate(joins) if at not in repeats and not any(lies_in(lot, ask) for ask in wide)]
    return tuple(rows), (len(repeats), len(strays), sum(number for _, number in rows))


def all_plans():
    """Right plans of many kinds, with their rows."""
    plans = list(STRANGE)
    for row in SMALL[::4] + [PAIR, FORK] + list(EDGES[9:17]):
        size = max([high for _, high in row], default=0) + 1
        plans.extend((make(size, row), row) for make in WAYS)
        plans.extend((plan_by(cuts, row), row) for cuts in (cuts_by(row), turning_cuts(row)))
    return plans


class TestFall(unittest.TestCase):
    def test_examples(self):
        check_same(self, fall_of(((0, 1), (0, 1, 2), (1, 2), (1, 2, 3)), stand_of(PAIR), ("ask", 0, 3)), 2)

    def test_by_definition(self):
        for stand in small_stands()[::2] + [HOLES, stand_of(PAIR), stand_of(FORK)]:
            for strike in all_strikes(stand):
                for family in FAMILIES:
                    if due_can(stand, strike):
                        check_same(self, fall_of(family, stand, strike), due_fall(family, stand, strike))
                    else:
                        check_unusable(self, "strike", -1, fall_of, family, stand, strike)

    def test_asks(self):
        stand = stand_of(((0, 3), (1, 4), (2, 6)))
        family = ((0, 1), (1, 2), (1, 2, 3), (2, 3), (2, 5), (3, 4))
        check_same(self, [fall_of(family, stand, ("ask", *ask)) for ask in stand[1]], [1, 1, 2])
        # Lots that lie in no ask of the stand do not count, nor those with an element outside.
        check_same(self, fall_of(((0, 1), (0, 9), (7, 8)), stand, ("ask", 0, 3)), 1)

    def test_parameters(self):
        good = {"family": ((0, 1),), "stand": stand_of(PAIR), "strike": ("element", 2)}
        check_parameters(self, fall_of, good, {
            "family": NOT_FAMILIES, "stand": helpers.NOT_STANDS,
            "strike": helpers.NOT_STRIKES + (("element", 4), ("ask", 0, 2), ("ask", 0, 4), ("element", helpers.SIXTY))})


class TestExcess(unittest.TestCase):
    def test_examples(self):
        check_same(self, (excess_rows(WASTE, PAIR), excess_of(WASTE, PAIR)),
                   (((("element", 2), 1), (("element", 1), 0)), (1, 0, 1)))

    def test_by_definition(self):
        for plan, row in all_plans():
            self.assertIsNone(first_wrong(plan, row, "same"))
            rows, excess = due_excess(plan, row)
            check_same(self, excess_rows(plan, row), rows)
            check_same(self, excess_of(plan, row), excess)
            self.assertTrue(all(number >= 0 for _, number in rows))

    def test_joins_less_the_least(self):
        for plan, row in all_plans():
            self.assertEqual(len(plan[1]) - least_of(row), sum(excess_of(plan, row)))
        # One plan is right for "same" alone, its parts overlapping.
        self.assertEqual(excess_of(LAP, ((0, 3),)), (0, 0, 1))

    def test_joins_without_use(self):
        check_same(self, excess_of((3, ((0, 1), (1, 0), (0, 2)), (3,)), ((0, 2),)), (1, 1, 0))
        check_same(self, excess_of((6, ((4, 5), (0, 1), (0, 0)), (2,)), ((2, 3),)), (1, 2, 0))
        check_same(self, excess_rows((6, ((4, 5), (0, 1), (0, 0)), (2,)), ((2, 3),)), ())
        both = beside_plan(PLAN3, WASTE)
        check_same(self, excess_of(both, PAIR + ((4, 7), (5, 8))), (1, 0, 1))

    def test_long_rows(self):
        row = tuple((at, at + 12) for at in range(60))
        for cuts in (cuts_by(row), turning_cuts(row)):
            check_same(self, excess_of(plan_by(cuts, row), row), (0, 0, 0))
        plan = overlapping(20, ((0, 20),))
        check_same(self, excess_of(plan, ((0, 20),)), due_excess(plan, ((0, 20),))[1])

    def test_parameters(self):
        for function in (excess_rows, excess_of):
            check_queue_parameters(self, function, {"plan": PLAN3, "queue": PAIR},
                                   {"plan": helpers.NOT_PLANS, "queue": helpers.NOT_ASKS + NOT_RIGHT})
            # A plan whose answers are in another sequence, and one whose answer has too much.
            check_unusable(self, "queue", -1, function, (4, PLAN3[1], (6, 5)), PAIR)
            check_unusable(self, "queue", -1, function, (4, PLAN3[1] + ((6, 0),), (5, 7)), PAIR)


if __name__ == "__main__":
    unittest.main()
