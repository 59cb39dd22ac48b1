"""[28] plans made of other plans."""

import unittest

from tests import helpers
from tests.helpers import LAP, PAIR, PLAN3, check_parameters, check_same, same_kind
from tests.plans import EDGES, WASTE, small_plans, span_of_word, words_of
from underthree.plankinds import is_plan
from underthree.planchanges import beside_plan, mirrored_plan, tidied, trimmed, used_joins


def needed_names(plan):
    """All names that an answer needs, by following each of them down."""
    size, joins, answers = plan
    open_names, seen = list(answers), set()
    while open_names:
        name = open_names.pop()
        if name not in seen:
            seen.add(name)
            if name >= size:
                open_names.extend(joins[name - size])
    return seen


def plan_of_tree(plan, keep, same):
    """The plan of the joins at the places keep; same tells for each name the name that stands for it."""
    size, joins, answers = plan
    names = {name: name for name in range(size)}
    for at, place in enumerate(keep):
        names[size + place] = size + at
    return (size, tuple((names[same[one]], names[same[other]]) for one, other in (joins[place] for place in keep)),
            tuple(names[same[answer]] for answer in answers))


def due_trimmed(plan):
    seen = needed_names(plan)
    keep = [at for at in range(len(plan[1])) if plan[0] + at in seen]
    return plan_of_tree(plan, keep, {name: name for name in range(plan[0] + len(plan[1]))})


def due_tidied(plan):
    size, joins, _ = plan
    spans = [span_of_word(word) for word in words_of(plan)]
    same = {name: name for name in range(size)}
    for name in range(size, size + len(joins)):
        alike = [other for other in range(size, name) if spans[other] == spans[name] and spans[name] is not None]
        same[name] = alike[0] if alike else name
    keep = [at for at in range(len(joins)) if same[size + at] == size + at]
    return due_trimmed(plan_of_tree(plan, keep, same))


class TestChanges(unittest.TestCase):
    def test_examples(self):
        plan = (3, ((0, 1), (3, 2), (1, 2), (0, 5)), (6, 5))
        check_same(self, trimmed(plan), (3, ((1, 2), (0, 3)), (4, 3)))
        check_same(self, tidied(plan), (3, ((0, 1), (3, 2), (1, 2)), (4, 5)))
        check_same(self, mirrored_plan(PLAN3), (4, ((1, 2), (4, 3), (0, 4)), (6, 5)))

    def test_used_joins(self):
        check_same(self, used_joins((3, ((0, 1), (3, 2), (1, 2), (0, 5)), (6, 5))), (2, 3))
        check_same(self, used_joins((2, ((0, 1), (2, 2)), ())), ())
        check_same(self, used_joins((2, ((0, 1), (2, 2)), (1, 0))), ())
        for plan in small_plans():
            due = tuple(sorted(name - plan[0] for name in needed_names(plan) if name >= plan[0]))
            check_same(self, used_joins(plan), due)

    def test_trimmed(self):
        for plan in small_plans():
            check_same(self, trimmed(plan), due_trimmed(plan))

    def test_tidied(self):
        for plan in small_plans():
            got = tidied(plan)
            check_same(self, got, due_tidied(plan))
            check_same(self, [words_of(got)[answer] for answer in got[2]], [words_of(plan)[answer] for answer in plan[2]])

    def test_tidied_keeps_what_has_no_span(self):
        plan = (2, ((1, 0), (1, 0), (0, 1), (0, 1), (2, 3), (4, 5)), (6, 7, 4, 5))
        check_same(self, tidied(plan), (2, ((1, 0), (1, 0), (0, 1), (2, 3), (4, 4)), (5, 6, 4, 4)))
        # An element's stretch is no join's, so nothing is left out for it.
        check_same(self, tidied((1, ((0, 0),), (1, 0))), (1, ((0, 0),), (1, 0)))

    def test_tidied_may_keep_more(self):
        plan = (3, ((0, 1), (3, 2), (1, 2), (0, 5)), (6, 5))
        self.assertGreater(len(tidied(plan)[1]), len(trimmed(plan)[1]))

    def test_mirrored_plan(self):
        for plan in small_plans():
            size = plan[0]
            got = mirrored_plan(plan)
            self.assertIs(is_plan(got), True)
            due = [tuple(size - 1 - element for element in reversed(word)) for word in words_of(plan)]
            due = due[:size][::-1] + due[size:]
            check_same(self, words_of(got), due)
            words = words_of(plan)
            answers = [tuple(size - 1 - element for element in reversed(words[answer])) for answer in reversed(plan[2])]
            check_same(self, [words_of(got)[answer] for answer in got[2]], answers)
            check_same(self, mirrored_plan(got), plan)
        check_same(self, mirrored_plan((3, (), (0, 0, 1))), (3, (), (1, 2, 2)))

    def test_beside_plan(self):
        for one in small_plans()[::40] + list(EDGES):
            for other in EDGES:
                got = beside_plan(one, other)
                size = one[0] + other[0]
                self.assertIs(is_plan(got), True)
                self.assertEqual(got[0], size)
                first, second = words_of(one), words_of(other)
                second = [tuple(element + one[0] for element in word) for word in second]
                check_same(self, words_of(got), [(at,) for at in range(size)] + first[one[0]:] + second[other[0]:])
                answers = [first[answer] for answer in one[2]] + [second[answer] for answer in other[2]]
                check_same(self, [words_of(got)[answer] for answer in got[2]], answers)
        check_same(self, beside_plan((2, ((0, 1),), (2,)), (1, ((0, 0), (1, 0)), (0, 2))),
                   (3, ((0, 1), (2, 2), (4, 2)), (3, 2, 5)))

    def test_of_any_size(self):
        plan = PLAN3
        for _ in range(6):
            plan = beside_plan(plan, plan)
        self.assertEqual((plan[0], len(plan[1]), len(plan[2])), (256, 192, 128))
        check_same(self, trimmed(plan), plan)
        check_same(self, mirrored_plan(mirrored_plan(plan)), plan)

    def test_nothing_is_left_to_do(self):
        for plan in small_plans()[::3]:
            for change in (trimmed, tidied):
                once = change(plan)
                self.assertLessEqual(len(once[1]), len(plan[1]))
                self.assertTrue(same_kind(change(once), once))

    def test_parameters(self):
        for function in (used_joins, trimmed, tidied, mirrored_plan):
            check_parameters(self, function, {"plan": LAP}, {"plan": helpers.NOT_PLANS})
        check_parameters(self, beside_plan, {"plan": LAP, "other": WASTE},
                         {"plan": helpers.NOT_PLANS, "other": helpers.NOT_PLANS + (PAIR,)})


if __name__ == "__main__":
    unittest.main()
