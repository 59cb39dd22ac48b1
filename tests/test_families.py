"""[29] families, [30] waste."""

import unittest
from itertools import combinations

from tests import helpers
from tests.helpers import LAP, PAIR, PLAN3, check_parameters, check_same, small_rows
from tests.plans import EDGES, WASTE, all_lots, small_plans, words_of
from underthree.families import fall_by, family_of, is_family, partners_of, struck_family
from underthree.wastes import repeats_of, strays_of

NOT_FAMILIES = helpers.NOT_TUPLES + (
    (0, 1), ((),), ((0,),), ((0, 1), (0,)), ((0, 1), (0, 1)), ((1, 2), (0, 1)), ((0, 1, 2), (0, 1)), ((1, 0),), ((0, 0),),
    ((0, True),), ((False, 1),), ((-1, 0),), ([0, 1],), [(0, 1)], ((0, "1"),), ((0, 1), None), ((0, (1,)),),
)


def lies_in(lot, asks):
    return any(set(lot) <= set(range(low, high)) for low, high in asks if high - low >= 2)


def due_family(asks, thing):
    """Whether a tuple of different lots, ascending, of two or more elements, is a family, by the words of [6]."""
    if not all(lies_in(lot, asks) for lot in thing):
        return False
    if not all(tuple(range(low, high)) in thing for low, high in asks if high - low >= 2):
        return False
    for lot in thing:
        parts = [set(part) for part in thing if part != lot] + [{element} for element in range(9)]
        if not any(one | other == set(lot) for one in parts for other in parts):
            return False
    return True


def lots_of_words(plan):
    return [tuple(sorted(set(word))) for word in words_of(plan)]


class TestFamilies(unittest.TestCase):
    def test_examples(self):
        self.assertIs(is_family(((0, 3),), ((0, 1, 2), (1, 2))), True)
        check_same(self, partners_of(((0, 1), (0, 1, 2), (1, 2)), 0), ((1,), (1, 2)))
        check_same(self, struck_family(((0, 1), (0, 1, 2), (1, 2)), 0), ((1, 2),))

    def test_family_of(self):
        for plan in small_plans() + [WASTE]:
            for asks in ((), ((0, 1),), ((0, 2),), ((0, 2), (1, 3)), ((0, 3),), ((1, 3), (2, 9))):
                due = tuple(sorted({lot for lot in lots_of_words(plan) if len(lot) > 1 and lies_in(lot, asks)}))
                check_same(self, family_of(plan, asks), due)

    def test_family_of_a_plan_that_does_not_suit(self):
        check_same(self, family_of(LAP, ((0, 2), (2, 9))), ((0, 1),))
        check_same(self, family_of((2, (), ()), ((0, 9),)), ())

    def test_is_family_of_all_tuples_of_lots(self):
        for size, rows in ((3, small_rows(3, 2)), (4, [((0, 4),), ((0, 3), (1, 4)), ((0, 2), (2, 4)), ((0, 4), (1, 3))])):
            lots = all_lots(size)
            for many in range(len(lots) + 1 if size == 3 else 6):
                for thing in combinations(lots, many):
                    for asks in rows:
                        self.assertIs(is_family(asks, thing), due_family(asks, thing), (asks, thing))

    def test_is_family_needs_two_unlike_parts(self):
        self.assertIs(is_family(((0, 3),), ((0, 1, 2),)), False)
        self.assertIs(is_family(((0, 3),), ((0, 1), (0, 1, 2))), True)
        self.assertIs(is_family(((0, 4),), ((0, 1, 2), (0, 1, 2, 3))), False)
        self.assertIs(is_family(((0, 4),), ((0, 1), (0, 1, 2, 3), (1, 2), (2, 3))), True)
        # Parts that overlap, and a part that lies in no family.
        self.assertIs(is_family(((0, 4),), ((0, 1), (0, 1, 2), (0, 1, 2, 3), (1, 2, 3), (2, 3))), True)
        self.assertIs(is_family(((0, 5),), ((0, 1), (0, 1, 2, 3, 4), (1, 2), (3, 4))), False)

    def test_is_family_of_any_value(self):
        for thing in NOT_FAMILIES:
            self.assertIs(is_family(((0, 3),), thing), False, thing)
            self.assertIs(is_family((), thing), False, thing)
        self.assertIs(is_family((), ()), True)
        self.assertIs(is_family(((0, 1), (4, 5)), ()), True)
        self.assertIs(is_family(((0, 1),), ((0, 1),)), False)
        self.assertIs(is_family(((0, 2),), ()), False)
        self.assertIs(is_family(thing=((0, 1),), asks=((0, 2),)), True)
        self.assertIs(is_family(((0, 2),), ((0, 1), (0, helpers.SIXTY))), False)
        self.assertIs(is_family(((0, 2),), ((0, 2),)), False)

    def test_is_family_of_the_greatest_rows(self):
        chain = tuple(sorted(tuple(range(low, 120)) for low in range(61, 119)))
        self.assertIs(is_family(((61, 120),), chain), True)
        self.assertIs(is_family(((61, 120),), chain[:40] + chain[41:]), False)

    def test_three_by_an_element(self):
        lots = all_lots(4)
        for many in range(6):
            for family in combinations(lots, many):
                for element in (0, 1, 3, 4):
                    ones = [(other,) for other in range(5)]
                    partners = tuple(sorted(lot for lot in ones + list(family) if element not in lot
                                            and tuple(sorted(lot + (element,))) in family))
                    check_same(self, partners_of(family, element), partners)
                    check_same(self, fall_by(family, element), len(partners))
                    rests = {tuple(one for one in lot if one != element) for lot in family}
                    rests = tuple(sorted(rest for rest in rests if len(rest) > 1))
                    check_same(self, struck_family(family, element), rests)
                    self.assertEqual(len(family) - len(partners), len(rests))

    def test_lots_of_great_numbers(self):
        huge = helpers.HUGE
        check_same(self, partners_of(((3, huge),), huge), ((3,),))
        check_same(self, struck_family(((3, 5, huge),), 5), ((3, huge),))
        check_same(self, [partners_of((), 0), fall_by((), 0), struck_family((), 0)], [(), 0, ()])

    def test_parameters(self):
        check_parameters(self, family_of, {"plan": PLAN3, "asks": PAIR},
                         {"plan": helpers.NOT_PLANS, "asks": helpers.NOT_ASKS})
        check_parameters(self, is_family, {"asks": PAIR, "thing": ()}, {"asks": helpers.NOT_ASKS, "thing": ()})
        for function in (partners_of, struck_family, fall_by):
            check_parameters(self, function, {"family": ((0, 1), (0, 1, 2)), "element": 0},
                             {"family": NOT_FAMILIES, "element": helpers.NOT_NUMBERS})


class TestWastes(unittest.TestCase):
    def test_examples(self):
        check_same(self, repeats_of((2, ((0, 0), (0, 1), (1, 0)), (3,))), (0, 2))
        check_same(self, strays_of(LAP, ((0, 2),)), (1, 2))

    def test_by_definition(self):
        for plan in small_plans() + [WASTE]:
            lots = lots_of_words(plan)[plan[0]:]
            repeats = tuple(at for at, lot in enumerate(lots) if len(lot) == 1 or lot in lots[:at])
            check_same(self, repeats_of(plan), repeats)
            for asks in ((), ((0, 1),), ((0, 2),), ((0, 2), (1, 3)), ((0, 3),), ((1, 3), (2, 9))):
                strays = tuple(at for at, lot in enumerate(lots) if at not in repeats and not lies_in(lot, asks))
                check_same(self, strays_of(plan, asks), strays)
                self.assertEqual(len(plan[1]), len(family_of(plan, asks)) + len(repeats) + len(strays))

    def test_edges(self):
        check_same(self, [repeats_of((3, (), (1,))), strays_of((3, (), (1,)), ())], [(), ()])
        check_same(self, repeats_of((1, ((0, 0), (1, 0)), ())), (0, 1))
        check_same(self, strays_of((1, ((0, 0), (1, 0)), ()), ()), ())
        # A repeat outside of all asks is no stray.
        check_same(self, strays_of((3, ((1, 2), (2, 1)), ()), ((0, 2),)), (0,))
        # What an ask of one element holds lies in no wide ask; lots may lie in an ask that ends above the size.
        check_same(self, strays_of((2, ((0, 1),), ()), ((0, 1), (1, 2))), (0,))
        check_same(self, strays_of((2, ((0, 1),), ()), ((0, 99),)), ())

    def test_parameters(self):
        check_parameters(self, repeats_of, {"plan": LAP}, {"plan": helpers.NOT_PLANS})
        check_parameters(self, strays_of, {"plan": LAP, "asks": PAIR},
                         {"plan": helpers.NOT_PLANS, "asks": helpers.NOT_ASKS})


if __name__ == "__main__":
    unittest.main()
