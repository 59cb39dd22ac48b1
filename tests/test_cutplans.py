"""[46] plans by cuts and the cuts of plans, [47] brackets, [48] what is held, and of [11] the guarantee (G6)."""

import unittest

from tests import helpers
from tests.cuts import all_cuts, due_fault, due_held, due_needed, made
from tests.helpers import FORK, LAP, PAIR, PLAN3, check_parameters, check_same, check_unusable
from tests.plans import EDGES as PLANS
from tests.plans import WASTE, is_right, left_to_right, right_to_left, small_plans, span_of_word, words_of
from tests.queues import EDGES, LONG, SMALL
from underthree.begins import asked_begins, held_table
from underthree.brackets import bracket_line, depth_of, needed_cuts
from underthree.cutkinds import is_cuts, lets_cuts
from underthree.cutplans import cuts_of, plan_by
from underthree.grades import grade_of, right_all
from underthree.making import cuts_by
from underthree.moments import held_at, step_cuts, step_table
from underthree.planchanges import used_joins
from underthree.turning import turning_cuts

PAIR_CUTS = ((1, 2, 3), (0, 1, 3), (1, 3, 4))
# Cuts that make more than PAIR: a stretch that PAIR does not need, and one behind all its asks.
MORE = ((0, 1, 2), (1, 2, 3), (2, 3, 4), (6, 7, 8), (0, 2, 3), (1, 3, 4))
NOT_MADE = ((0, 4),), ((0, 2),), ((0, 3), (1, 5)), ((0, 3), (7, 9))
TINY = all_cuts(4, 4)
HUGE = helpers.SIXTY


def pairs_of_cuts_and_asks():
    """Cuts with rows whose wide asks they make, and more."""
    pairs = [((), ()), (MORE, PAIR), (MORE, ((0, 1), (3, 4))), (((0, 1, 2),), ((7, 8),)), (((4, 5, 6),), ((0, 1),)),
             (((0, 1, 2), (5, 6, 7), (0, 2, 3)), ((0, 1), (0, 2), (1, 2), (6, 7)))]
    for row in SMALL[::3] + list(EDGES) + LONG[:4]:
        pairs.extend([(cuts_by(row), row), (turning_cuts(row), row), (cuts_by(row), row[::2])])
    for cuts in TINY[::3]:
        stretches = sorted(made(cuts))
        pairs.extend([(cuts, tuple(stretches)), (cuts, tuple(stretches[1:])), (cuts, ((1, 2),))])
    return pairs


def pairs_small():
    return [pair for pair in pairs_of_cuts_and_asks() if len(pair[0]) < 40]


class TestPlanBy(unittest.TestCase):
    def test_examples(self):
        check_same(self, plan_by(PAIR_CUTS, PAIR), PLAN3)

    def test_by_definition(self):
        for cuts, asks in pairs_of_cuts_and_asks():
            plan = plan_by(cuts, asks)
            size, joins, answers = plan
            ends = [high for _, _, high in cuts] + [high for _, high in asks]
            self.assertEqual(size, max(ends, default=1))
            spans = [span_of_word(word) for word in words_of(plan)] if len(cuts) < 120 else None
            if spans is not None:
                self.assertEqual(spans[size:], [(low, high) for low, _, high in cuts])
                for (one, other), (low, cut, high) in zip(joins, cuts):
                    self.assertEqual((spans[one], spans[other]), ((low, cut), (cut, high)))
                self.assertEqual([spans[answer] for answer in answers], list(asks))
            self.assertEqual(len(joins), len(cuts))
            self.assertIs(right_all(plan, asks), True)

    def test_edges(self):
        check_same(self, plan_by((), ()), (1, (), ()))
        check_same(self, plan_by((), ((3, 4),)), (4, (), (3,)))
        check_same(self, plan_by(((4, 5, 6),), ((0, 1),)), (6, ((4, 5),), (0,)))
        check_same(self, plan_by(((0, 1, 2),), ((0, 1), (0, 2), (1, 2), (6, 7))), (7, ((0, 1),), (0, 7, 1, 6)))

    def test_asks_need_not_be_a_queue_row(self):
        cuts = ((1, 2, 3), (0, 1, 3), (0, 3, 4))
        check_same(self, plan_by(cuts, ((0, 4), (1, 3))), (4, ((1, 2), (0, 4), (5, 3)), (6, 4)))

    def test_parameters(self):
        check_parameters(self, plan_by, {"cuts": PAIR_CUTS, "asks": PAIR},
                         {"cuts": helpers.NOT_CUTS, "asks": helpers.NOT_ASKS + NOT_MADE})


class TestCutsOf(unittest.TestCase):
    def test_examples(self):
        check_same(self, cuts_of((3, ((0, 1), (1, 2), (0, 4), (3, 2)), (5,)), ((0, 3),)), ((1, 2, 3), (0, 1, 3)))

    def test_by_definition(self):
        plans = [(plan, asks) for plan in small_plans() + list(PLANS) for asks in (((0, 2),), ((0, 3),), ((0, 1), (0, 2)), PAIR)]
        many = 0
        for plan, asks in plans + [(WASTE, PAIR)] + [(left_to_right(7, row), row) for row in SMALL[::4]]:
            if not is_right(plan, asks, "all"):
                check_unusable(self, "asks", -1, cuts_of, plan, asks)
                continue
            many += 1
            words, due = words_of(plan), {}
            for at in used_joins(plan):
                low, high = span_of_word(words[plan[0] + at])
                due.setdefault((low, high), (low, words[plan[1][at][0]][-1] + 1, high))
            cuts = cuts_of(plan, asks)
            check_same(self, cuts, tuple(sorted(due.values(), key=lambda triple: (triple[2] - triple[0], triple[0]))))
            self.assertIs(is_cuts(cuts), True)
            self.assertLessEqual(lets_cuts(asks, cuts), len(plan[1]))
        self.assertGreater(many, 30)

    def test_the_first_used_join_tells(self):
        # The stretch (0, 3) is made twice: first, without use, at 1, then at 2, then at 1 again.
        joins = ((1, 2), (0, 3), (0, 1), (5, 2), (0, 3))
        check_same(self, cuts_of((3, joins, (6,)), ((0, 3),)), ((0, 1, 2), (0, 2, 3)))
        check_same(self, cuts_of((3, joins, (7,)), ((0, 3),)), ((1, 2, 3), (0, 1, 3)))
        both = (4, ((1, 2), (0, 1), (5, 2), (0, 4), (4, 3)), (6, 8))
        check_same(self, cuts_of(both, PAIR), ((0, 1, 2), (1, 2, 3), (0, 2, 3), (1, 3, 4)))
        # Both joins that make (0, 3) are used: one for an ask, one as a part of the other ask.
        twice = (4, ((0, 1), (4, 2), (1, 2), (0, 6), (7, 3)), (5, 8))
        check_same(self, cuts_of(twice, ((0, 3), (0, 4))), ((0, 1, 2), (1, 2, 3), (0, 2, 3), (0, 3, 4)))

    def test_there_and_back(self):
        for cuts, asks in pairs_of_cuts_and_asks():
            check_same(self, cuts_of(plan_by(cuts, asks), asks), due_needed(cuts, asks) if len(cuts) < 120 else
                       needed_cuts(cuts, asks))

    def test_plans_of_other_grades(self):
        commuting = right_to_left(4, PAIR)
        self.assertEqual(grade_of(commuting, PAIR), "commuting")
        check_unusable(self, "asks", -1, cuts_of, commuting, PAIR)
        check_unusable(self, "asks", -1, cuts_of, LAP, ((0, 3),))

    def test_parameters(self):
        check_parameters(self, cuts_of, {"plan": PLAN3, "asks": PAIR},
                         {"plan": helpers.NOT_PLANS, "asks": helpers.NOT_ASKS + (((0, 3),), ((0, 3), (1, 5)), ((0, 2), (1, 4)), ())})


def due_line(cuts, stretch):
    low, high = stretch
    if high - low == 1:
        return str(low)
    cut = made(cuts)[stretch]
    return "(" + due_line(cuts, (low, cut)) + " " + due_line(cuts, (cut, high)) + ")"


def due_depth(cuts, stretch):
    low, high = stretch
    if high - low == 1:
        return 0
    cut = made(cuts)[stretch]
    return 1 + max(due_depth(cuts, (low, cut)), due_depth(cuts, (cut, high)))


class TestBrackets(unittest.TestCase):
    def test_examples(self):
        check_same(self, bracket_line(cuts_by(FORK), (1, 6)), "(((1 2) 3) (4 5))")

    def test_by_definition(self):
        for cuts in TINY + [cuts_by(row) for row in SMALL[::5] + list(EDGES[7:17])] + [MORE]:
            for stretch in list(made(cuts)) + [(0, 1), (3, 4), (HUGE, HUGE + 1)]:
                check_same(self, bracket_line(cuts, stretch), due_line(cuts, stretch))
                check_same(self, depth_of(cuts, stretch), due_depth(cuts, stretch))

    def test_long_stretch(self):
        cuts = tuple((0, at, at + 1) for at in range(1, 120))
        check_same(self, depth_of(cuts, (0, 120)), 119)
        line = "(" * 119 + "0" + "".join(f" {at})" for at in range(1, 120))
        check_same(self, bracket_line(cuts, (0, 120)), line)
        check_same(self, bracket_line(cuts, (0, 3)), "((0 1) 2)")

    def test_parameters(self):
        stretches = helpers.NOT_STRETCHES + ((0, 2), (0, 4), (1, 5), (0, HUGE), (1, 3, 4), ((1, 3),))
        for function in (bracket_line, depth_of):
            check_parameters(self, function, {"cuts": PAIR_CUTS, "stretch": (1, 4)},
                             {"cuts": helpers.NOT_CUTS, "stretch": stretches})


class TestNeeded(unittest.TestCase):
    def test_by_definition(self):
        for cuts, asks in pairs_small():
            check_same(self, needed_cuts(cuts, asks), due_needed(cuts, asks))
            self.assertIsNone(due_fault(asks, needed_cuts(cuts, asks)))

    def test_edges(self):
        check_same(self, needed_cuts(MORE, PAIR), ((0, 1, 2), (1, 2, 3), (0, 2, 3), (1, 3, 4)))
        check_same(self, needed_cuts(MORE, ()), ())
        check_same(self, needed_cuts(MORE, ((0, 1), (7, 8))), ())
        check_same(self, needed_cuts(MORE, ((2, 4),)), ((2, 3, 4),))

    def test_parameters(self):
        check_parameters(self, needed_cuts, {"cuts": PAIR_CUTS, "asks": PAIR},
                         {"cuts": helpers.NOT_CUTS, "asks": helpers.NOT_ASKS + NOT_MADE})


class TestMoments(unittest.TestCase):
    def test_examples(self):
        check_same(self, (step_cuts(cuts_by(FORK), 7), step_table(PAIR_CUTS, 4)), (((4, 6, 7), (3, 4, 7)), (0, 0, 2, 1)))
        check_same(self, (held_at(PAIR_CUTS, PAIR, 2), held_at(PAIR_CUTS, PAIR, 3)), (((0, 1), (1, 2)), ((1, 3),)))
        check_same(self, held_table(PAIR_CUTS, PAIR), ((0, 0), (1, 1), (2, 2), (1, 1), (0, 0)))

    def test_steps(self):
        for cuts, _ in pairs_small():
            last = max([high for _, _, high in cuts], default=0)
            for place in list(range(last + 2)) + [HUGE]:
                due = sorted([triple for triple in cuts if triple[2] == place], reverse=True)
                check_same(self, step_cuts(cuts, place), tuple(due))
            for size in (1, 3, last + 1):
                due = tuple(len([triple for triple in cuts if triple[2] == place]) for place in range(1, size + 1))
                check_same(self, step_table(cuts, size), due)

    def test_held(self):
        for cuts, asks in pairs_small()[::2]:
            last = max([high for _, high in asks], default=0)
            for place in list(range(last + 2)) + [HUGE]:
                check_same(self, held_at(cuts, asks, place), due_held(cuts, asks, place))

    def test_asked_begins(self):
        for row in [row for _, row in pairs_small()[::2]] + [((0, 4), (1, 2), (1, 3)), ((0, 9), (2, 3), (2, 9)),
                                                             ((1, 20), (8, 19), (16, 18), (17, 19))]:
            last = max([high for _, high in row], default=0)
            for place in list(range(last + 2)) + [HUGE]:
                due = tuple(sorted({low for low, high in row if low < place and high > place}))
                check_same(self, asked_begins(row, place), due)

    def test_held_table(self):
        for cuts, asks in pairs_small():
            last = max([high for _, high in asks], default=0)
            table = held_table(cuts, asks)
            due = tuple((len(due_held(cuts, asks, place)), len(asked_begins(asks, place))) for place in range(last + 1))
            check_same(self, table, due)
            self.assertTrue(all(held >= begun for held, begun in table))

    def test_edges(self):
        check_same(self, (held_table((), ()), held_at((), (), 0), asked_begins((), 0)), (((0, 0),), (), ()))
        check_same(self, held_table((), ((2, 3),)), ((0, 0),) * 4)
        # What no ask needs is not held.
        check_same(self, held_at(MORE, ((0, 1),), 1), ())
        check_same(self, held_at(((0, 1, 2), (0, 2, 3)), ((0, 2),), 2), ())
        check_same(self, held_at(((0, 1, 2), (0, 2, 3)), ((0, 3),), 2), ((0, 2),))
        check_same(self, step_cuts((), 0), ())
        check_same(self, step_table((), 2), (0, 0))

    def test_parameters(self):
        not_asks = helpers.NOT_ASKS + NOT_MADE
        check_parameters(self, step_cuts, {"cuts": PAIR_CUTS, "place": 3}, {"cuts": helpers.NOT_CUTS, "place": helpers.NOT_NUMBERS})
        check_parameters(self, step_table, {"cuts": PAIR_CUTS, "size": 3}, {"cuts": helpers.NOT_CUTS, "size": helpers.NOT_POSITIVE})
        check_parameters(self, held_at, {"cuts": PAIR_CUTS, "asks": PAIR, "place": 3},
                         {"cuts": helpers.NOT_CUTS, "asks": not_asks, "place": helpers.NOT_NUMBERS})
        check_parameters(self, asked_begins, {"asks": ((0, 4), (1, 2)), "place": 3},
                         {"asks": helpers.NOT_ASKS, "place": helpers.NOT_NUMBERS})
        check_parameters(self, held_table, {"cuts": PAIR_CUTS, "asks": PAIR}, {"cuts": helpers.NOT_CUTS, "asks": not_asks})


if __name__ == "__main__":
    unittest.main()
