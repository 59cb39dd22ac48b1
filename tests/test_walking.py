"""[37] the walk, [42] what holds for its strikes."""

import unittest
from functools import lru_cache

from tests import helpers
from tests.helpers import FORK, PAIR, check_error, check_parameters, check_queue_parameters, check_same
from tests.queues import EDGES, LONG, SMALL, crossing, due_least, due_stand, due_step, due_walk, in_order
from tests.test_stands import all_strikes, due_can, due_gain, due_struck, small_stands
from underthree.errors import OutOfOrder
from underthree.gains import unlabelled
from underthree.kinds import is_queue
from underthree.leasts import least_of
from underthree.stands import can_strike, stand_of, struck
from underthree.strikechecker import lets_strikes
from underthree.walking import next_strike, rules_of, walk_of


class TestNextStrike(unittest.TestCase):
    def test_each_rule(self):
        check_same(self, next_strike(stand_of(PAIR)), (1, ("element", 2)))
        # The places 1, 2 and 4 are free; the least one is told.
        check_same(self, next_strike(stand_of(((0, 3), (0, 5), (3, 5)))), (1, ("element", 1)))
        check_same(self, next_strike(((0, 1, 3), ((0, 3),))), (1, ("element", 1)))
        check_same(self, next_strike(((0, 2, 4), ((0, 4),))), (1, ("element", 2)))
        check_same(self, next_strike(((0, 1, 2, 3), ((0, 2), (0, 3), (1, 3)))), (2, ("ask", 0, 3)))
        check_same(self, next_strike(((0, 1, 2, 4, 5), ((0, 2), (1, 4), (1, 5)))), (2, ("ask", 1, 5)))
        check_same(self, next_strike(((0, 1, 3, 4), ((0, 3), (1, 4)))), (3, ("element", 1)))

    def test_asks_that_end_together(self):
        stand = ((0, 1, 2, 3, 4, 5), ((0, 3), (1, 3), (2, 4), (3, 5)))
        check_same(self, next_strike(stand), (3, ("ask", 0, 3)))
        check_same(self, next_strike(struck(stand, ("ask", 0, 3))), (3, ("element", 2)))

    def test_a_place_between_the_two_greatest_ends(self):
        stand = ((0, 1, 2, 3, 4, 5), ((0, 2), (0, 4), (1, 4), (2, 5), (3, 5)))
        check_same(self, next_strike(stand), (2, ("element", 3)))
        stand = ((0, 1, 3, 4, 5), ((0, 3), (0, 4), (1, 4), (3, 5)))
        check_same(self, next_strike(stand), (2, ("ask", 0, 4)))

    def test_the_greatest_place_of_a_fork(self):
        stand = stand_of(((0, 2), (0, 3), (1, 3), (1, 4), (2, 4)))
        check_same(self, next_strike(stand), (2, ("ask", 1, 4)))
        stand = stand_of(((0, 2), (0, 3), (0, 4), (1, 4), (2, 4), (3, 5)))
        check_same(self, next_strike(stand), (2, ("ask", 0, 4)))

    def test_no_asks(self):
        for stand in (stand_of(()), ((), ()), stand_of(((3, 4),)), ((1, 7, 9), ())):
            self.assertIsNone(next_strike(stand))

    def test_all_small_stands(self):
        for stand in small_stands() + [due_stand(row) for row in SMALL]:
            if in_order(stand[1]):
                check_same(self, next_strike(stand), due_step(stand))
                continue
            one, other = crossing(stand[1])
            check_error(self, OutOfOrder, {"one": one, "other": other}, next_strike, stand)

    def test_stands_with_holes_along_strikes(self):
        for row in EDGES[:17]:
            stand = due_stand(row)
            while stand[1]:
                check_same(self, next_strike(stand), due_step(stand))
                strike = [strike for strike in all_strikes(stand) + [("element", at) for at in stand[0]]
                          if due_can(stand, strike)][-1]
                stand = due_struck(stand, strike)

    def test_parameters(self):
        check_parameters(self, next_strike, {"stand": stand_of(PAIR)}, {"stand": helpers.NOT_STANDS})
        for row, one, other in helpers.CROSSED:
            wide = tuple(ask for ask in row if ask[1] - ask[0] > 1)
            if one in wide and other in wide:
                check_error(self, OutOfOrder, {"one": one, "other": other}, next_strike, stand=stand_of(row))


class TestWalk(unittest.TestCase):
    def test_examples(self):
        check_same(self, (walk_of(PAIR), rules_of(PAIR)), (((("element", 2), 1), (("element", 1), 2)), (1, 3)))
        check_same(self, rules_of(FORK), (1, 2, 1, 2, 1, 3))

    def test_by_definition(self):
        for row in SMALL + list(EDGES) + LONG:
            steps = due_walk(due_stand(row))
            check_same(self, walk_of(row), tuple((strike, gain) for _, _, strike, gain in steps))
            check_same(self, rules_of(row), tuple(rule for _, rule, _, _ in steps))

    def test_the_paper_is_accepted_and_leaves_no_ask(self):
        for row in SMALL + list(EDGES) + LONG:
            paper = walk_of(row)
            self.assertEqual(lets_strikes(row, paper), least_of(row))
            stand = stand_of(row)
            for strike, _ in paper:
                stand = struck(stand, strike)
            self.assertEqual(stand[1], ())

    def test_no_wide_ask(self):
        for row in ((), ((0, 1),), ((3, 4), (7, 8))):
            check_same(self, (walk_of(row), rules_of(row)), ((), ()))

    def test_parameters(self):
        for function in (walk_of, rules_of):
            check_queue_parameters(self, function, {"queue": PAIR}, {})


class TestConsequences(unittest.TestCase):
    def test_a_strike_leaves_a_queue_row(self):
        for row in SMALL[::3]:
            stand = stand_of(row)
            for strike in all_strikes(stand):
                if can_strike(stand, strike):
                    self.assertIs(is_queue(struck(stand, strike)[1]), True)

    def test_gains_by_rules(self):
        for row in SMALL + list(EDGES) + LONG:
            for rule, (strike, gain) in zip(rules_of(row), walk_of(row)):
                self.assertEqual(gain, 2 if rule > 1 and strike[0] == "element" else 1)

    def test_any_place_of_rule_one(self):
        for row in SMALL[::2] + list(EDGES[:17]) + LONG[:3]:
            stand = stand_of(row)
            total = 0
            turn = 0
            while True:
                step = next_strike(stand)
                if step is None:
                    break
                rule, strike = step
                if rule == 1:
                    places = unlabelled(stand)
                    turn += 1
                    strike = ("element", places[turn % len(places)])
                total += due_gain(stand, strike)
                stand = struck(stand, strike)
            self.assertEqual(total, least_of(row))

    def test_no_strikes_gain_more_than_the_least(self):
        @lru_cache(maxsize=None)
        def most(stand):
            strikes = [("element", at) for at in stand[0]] + [("ask",) + ask for ask in stand[1]]
            return max([due_gain(stand, strike) + most(due_struck(stand, strike)) for strike in strikes
                        if due_can(stand, strike)], default=0)
        for row in SMALL[::5] + [PAIR, FORK, EDGES[9], EDGES[15]]:
            self.assertEqual(most(due_stand(row)), least_of(row), row)
            self.assertEqual(due_least(due_stand(row)), least_of(row))


if __name__ == "__main__":
    unittest.main()
