"""[50] cuts changed, [51] cuts as lines, Cuts, and what [52] says of both."""

import unittest
from itertools import product

from tests import helpers
from tests.cuts import TRIPLES, all_cuts, due_fault, due_needed, in_sequence, made
from tests.helpers import (
    FORK, PAIR, check_all_texts, check_crossed, check_parameters, check_same, check_text, check_unusable, small_rows,
)
from tests.queues import EDGES, LONG, SMALL
from tests.test_cutplans import MORE, PAIR_CUTS, pairs_small
from underthree.askchanges import mirrored, moved, stretched
from underthree.brackets import bracket_line, needed_cuts
from underthree.cutchanges import merged_cuts, mirrored_cuts, moved_cuts, stretched_cuts
from underthree.cutclasses import Cuts
from underthree.cutkinds import is_cuts, lets_cuts
from underthree.cutplans import cuts_of, plan_by
from underthree.cuttexts import cuts_line, read_cuts
from underthree.grades import right_all
from underthree.leasts import least_of
from underthree.making import cuts_by
from underthree.moments import held_at
from underthree.runners import Runner
from underthree.strikeclasses import Strikes
from underthree.turning import turning_count, turning_cuts

HUGE = helpers.SIXTY
NOT_COUNTS = helpers.NOT_TUPLES + (
    (), (1,), (1, 1, 1), (1, 1, 1, 0), (1, 1, 1, -1), (1, 1, 1, True), (False, 1, 1, 1), (1, 1, "1", 1), (1, 1, 1, None),
    (1, 1, 1, (1,)), [1, 1, 1, 1],
)
TINY = all_cuts(4, 4)


def end_of(cuts):
    return max([high for _, _, high in cuts], default=0)


class TestMirrored(unittest.TestCase):
    def test_by_definition(self):
        for cuts in TINY + [MORE, cuts_by(FORK)]:
            for size in (max(1, end_of(cuts)), end_of(cuts) + 3):
                due = in_sequence([(size - high, size - cut, size - low) for low, cut, high in cuts])
                check_same(self, mirrored_cuts(cuts, size), due)
                check_same(self, mirrored_cuts(due, size), cuts)
            for size in range(1, end_of(cuts)):
                check_unusable(self, "size", -1, mirrored_cuts, cuts, size)

    def test_makes_the_mirrored_row(self):
        for row in SMALL[::3] + list(EDGES) + LONG:
            cuts = mirrored_cuts(cuts_by(row), 120)
            self.assertEqual(lets_cuts(mirrored(row, 120), cuts), least_of(row))

    def test_parameters(self):
        check_same(self, mirrored_cuts((), 1), ())
        check_parameters(self, mirrored_cuts, {"cuts": PAIR_CUTS, "size": 4},
                         {"cuts": helpers.NOT_CUTS, "size": helpers.NOT_POSITIVE + (3, 2, 1)})


class TestMoved(unittest.TestCase):
    def test_by_definition(self):
        for cuts in TINY + [MORE]:
            for many in (0, 1, 40, HUGE):
                due = tuple((low + many, cut + many, high + many) for low, cut, high in cuts)
                check_same(self, moved_cuts(cuts, many), due)
                self.assertIs(is_cuts(due), True)

    def test_makes_the_moved_row(self):
        for row in SMALL[::3]:
            self.assertEqual(lets_cuts(moved(row, 7), moved_cuts(cuts_by(row), 7)), least_of(row))

    def test_parameters(self):
        check_parameters(self, moved_cuts, {"cuts": PAIR_CUTS, "many": 0}, {"cuts": helpers.NOT_CUTS, "many": helpers.NOT_NUMBERS})


class TestMerged(unittest.TestCase):
    def test_by_definition(self):
        for cuts, other in product(TINY[::4], TINY[::3]):
            due = made(other)
            due.update(made(cuts))
            merged = merged_cuts(cuts, other)
            check_same(self, merged, in_sequence([(low, cut, high) for (low, high), cut in due.items()]))
            self.assertIs(is_cuts(merged), True)
            self.assertEqual(set(made(merged)), set(made(cuts)) | set(made(other)))

    def test_the_first_ones_stay(self):
        one, other = ((0, 1, 2), (0, 2, 3)), ((1, 2, 3), (0, 1, 3), (0, 3, 4))
        check_same(self, merged_cuts(one, other), ((0, 1, 2), (1, 2, 3), (0, 2, 3), (0, 3, 4)))
        check_same(self, merged_cuts(other, one), ((0, 1, 2), (1, 2, 3), (0, 1, 3), (0, 3, 4)))
        check_same(self, [merged_cuts(one, ()), merged_cuts((), one)], [one, one])

    def test_parameters(self):
        check_parameters(self, merged_cuts, {"cuts": PAIR_CUTS, "other": MORE}, {"cuts": helpers.NOT_CUTS, "other": helpers.NOT_CUTS})


class TestStretched(unittest.TestCase):
    def due(self, cuts, counts, asks):
        sums = [sum(counts[:at]) for at in range(len(counts) + 1)]
        triples = [(sums[low], sums[cut], sums[high]) for low, cut, high in cuts]
        inside = set()
        for low, high in list(asks) + list(made(cuts)):
            inside.update(range(low, high))
        for element in inside:
            triples.extend((sums[element], place, place + 1) for place in range(sums[element] + 1, sums[element + 1]))
        return in_sequence(triples)

    def test_example(self):
        check_same(self, stretched_cuts(((0, 1, 2),), (1, 3), ((0, 2),)), ((1, 2, 3), (1, 3, 4), (0, 1, 4)))

    def test_by_definition(self):
        for cuts, asks in pairs_small():
            need = max(end_of(cuts), end_of([(low, low, high) for low, high in asks]))
            if need > 30:
                continue
            for counts in ((1,) * need, (2,) * need, tuple(1 + at % 3 for at in range(need)), tuple(3 - at % 3 for at in range(need + 2))):
                found = stretched_cuts(cuts, counts, asks)
                check_same(self, found, self.due(cuts, counts, asks))
                self.assertEqual(lets_cuts(stretched(asks, counts), found), len(found))

    def test_makes_the_stretched_row_with_the_least(self):
        for row in SMALL[::3] + list(EDGES[:5]):
            counts = tuple(1 + at % 4 for at in range(8))
            if not row or row[-1][1] <= 8:
                found = stretched_cuts(cuts_by(row), counts, row)
                self.assertEqual(lets_cuts(stretched(row, counts), found), least_of(stretched(row, counts)))

    def test_edges(self):
        check_same(self, stretched_cuts((), (), ()), ())
        check_same(self, stretched_cuts((), (5, 2), ()), ())
        # An ask of one element becomes a wide one; what no ask needs is stretched, too.
        check_same(self, stretched_cuts((), (1, 3), ((1, 2),)), ((1, 2, 3), (1, 3, 4)))
        check_same(self, stretched_cuts(((0, 1, 2),), (2, 2, 2), ()), ((0, 1, 2), (2, 3, 4), (0, 2, 4)))

    def test_parameters(self):
        not_asks = helpers.NOT_ASKS + (((0, 2),), ((0, 3), (1, 5)), ((4, 5),), ((0, 1), (7, 8)))
        check_parameters(self, stretched_cuts, {"cuts": PAIR_CUTS, "counts": (1, 2, 1, 1), "asks": PAIR},
                         {"cuts": helpers.NOT_CUTS, "counts": NOT_COUNTS, "asks": not_asks})


class TestLines(unittest.TestCase):
    def test_examples(self):
        check_same(self, cuts_line(PAIR_CUTS), "1:2:3 0:1:3 1:3:4")
        check_text(self, 1, read_cuts, "0:1:2 1:3:4")

    def test_there_and_back(self):
        for cuts in TINY + [cuts_by(row) for row in list(EDGES) + LONG] + [((HUGE, HUGE + 1, HUGE + 2),)]:
            line = " ".join(f"{low}:{cut}:{high}" for low, cut, high in cuts) or "-"
            check_same(self, cuts_line(cuts), line)
            check_same(self, read_cuts(line), cuts)

    def test_wrong_parts(self):
        for wrong in ("", "-", "x", "0", "0:1", "0:1:2:3", ":1:2", "0::2", "0:1:", ":::", "::", "00:1:2", "0:01:2", "0:1:02", "+0:1:2",
                      "-1:0:1", "0:1:-2", "0:1:2,", "0:1:2;", "0-1-2", "0:1:x", "0:\u0661:2", "0:1:2\n", "\n0:1:2", "0:0:1", "0:1:1",
                      "2:1:0", "0:2:1", "0,1,2"):
            if wrong != "-":
                check_text(self, 0, read_cuts, wrong)
                check_text(self, 0, read_cuts, wrong + " 0:1:2")
            check_text(self, 1, read_cuts, "0:1:2 " + wrong)
            check_text(self, 2, read_cuts, "0:1:2 1:2:3 " + wrong + " x")

    def test_parts_that_the_checker_bars(self):
        for text, field in (("0:1:2 0:1:2", 1), ("1:2:3 0:1:2", 1), ("0:1:3", 0), ("0:2:3", 0), ("0:1:2 1:2:3 0:2:4", 2),
                            ("1:2:3 0:1:3 0:2:3", 2), ("0:1:2 0:2:3 0:2:3", 2), ("0:1:2 0:2:3 1:2:3 x", 2)):
            check_text(self, field, read_cuts, text)

    def test_blanks_and_nothing(self):
        check_same(self, read_cuts("-"), ())
        for text, field in (("", 0), (" ", 0), ("- ", 1), ("- 0:1:2", 1), ("- -", 1), ("0:1:2  1:2:3", 1), ("0:1:2 ", 1), (" 0:1:2", 0)):
            check_text(self, field, read_cuts, text)

    def test_all_short_texts(self):
        tokens = [f"{low}:{cut}:{high}" for low, cut, high in TRIPLES if high < 4] + ["-", "", "0:1", "1:0:2"]
        lines = [cuts_line(cuts) for cuts in all_cuts(4, 4)]
        check_all_texts(self, lines, tokens, 4, read_cuts, cuts_line)

    def test_parameters(self):
        check_parameters(self, cuts_line, {"cuts": PAIR_CUTS}, {"cuts": helpers.NOT_CUTS})
        check_parameters(self, read_cuts, {"text": "-"}, {"text": helpers.NOT_TEXT})


class TestCuts(unittest.TestCase):
    def test_methods(self):
        for row in SMALL[::5] + list(EDGES[:17]):
            live = Cuts(queue=row)
            cuts = cuts_by(row)
            check_same(self, (live.told(), live.plan(), live.many()), (cuts, plan_by(cuts, row), len(cuts)))
            for place in range(6):
                check_same(self, live.held(place=place), held_at(cuts, row, place))
            for stretch in list(made(cuts)) + [(9, 10)]:
                check_same(self, live.bracket(stretch=stretch), bracket_line(cuts, stretch))

    def test_runner(self):
        live = Cuts(PAIR)
        one, other = live.runner(operation=("sum", 100)), live.runner(("sum", 100))
        self.assertIs(type(one), Runner)
        check_same(self, [one.put(5), one.put(1), one.put(2)], [(), (), (((0, 3), 8),)])
        check_same(self, other.state(), (0, 0, ()))
        check_same(self, live.told(), PAIR_CUTS)

    def test_equality(self):
        # The second and the third row have the same cuts.
        rows = (PAIR, ((0, 2),), ((0, 1), (0, 2)), ())
        for one in rows:
            for other in rows:
                self.assertIs(Cuts(one) == Cuts(other), one == other)
                self.assertIs(Cuts(one) != Cuts(other), one != other)
            for thing in (one, Cuts(one).told(), None, 1, Strikes(one)):
                self.assertIs(Cuts(one) == thing, False)
                self.assertIs(thing == Cuts(one), False)

    def test_errors(self):
        check_parameters(self, Cuts, {"queue": PAIR}, {"queue": helpers.NOT_ASKS})
        check_crossed(self, Cuts, {"queue": PAIR}, {})
        live = Cuts(PAIR)
        check_parameters(self, live.held, {"place": 3}, {"place": helpers.NOT_NUMBERS})
        check_parameters(self, live.bracket, {"stretch": (1, 4)}, {"stretch": helpers.NOT_STRETCHES + ((0, 2), (0, 4), (0, HUGE))})
        check_parameters(self, live.runner, {"operation": ("most",)}, {"operation": helpers.NOT_OPERATIONS})


class TestConsequences(unittest.TestCase):
    def test_cuts_of_the_walk_and_of_the_keeper(self):
        for row in SMALL + list(EDGES):
            self.assertEqual(lets_cuts(row, cuts_by(row)), least_of(row))
            self.assertEqual(needed_cuts(cuts_by(row), row), cuts_by(row))
            self.assertEqual(lets_cuts(row, turning_cuts(row)), turning_count(row))

    def test_plans_and_lines(self):
        rows = small_rows(4, 3)[::7]
        for cuts in TINY[::2]:
            self.assertEqual(read_cuts(cuts_line(cuts)), cuts)
            for row in rows:
                if due_fault(row, cuts) is None:
                    self.assertIs(right_all(plan_by(cuts, row), row), True)
                    self.assertEqual(cuts_of(plan_by(cuts, row), row), due_needed(cuts, row))


if __name__ == "__main__":
    unittest.main()
