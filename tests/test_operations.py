"""[15] operations, their values, what two values come to."""

import unittest
from itertools import product

from tests import helpers
from tests.helpers import check_parameters, check_same, check_unusable
from underthree.operations import commutes, idle_pair, is_operation, is_value, join_two, keeps_same

STRETCHES = [(low, high) for low in range(4) for high in range(low + 1, 4)]


def sample(operation):
    """Values of the operation, all of them if they are few."""
    word, numbers = operation[0], operation[1:]
    if word in ("sum", "product"):
        return list(range(min(numbers[0], 7))) + [numbers[0] - 1]
    if word in ("most", "least", "first", "last"):
        return [-helpers.HUGE, -2, -1, 0, 1, 2, helpers.HUGE]
    if word == "or":
        return [0, 1, 2, 3, 5, 12, helpers.HUGE]
    if word == "maps":
        if numbers[0] <= 2:
            return list(product(range(numbers[0]), repeat=numbers[0]))
        turned = tuple(range(1, numbers[0])) + (0,)
        return [turned, turned[::-1], (0,) * numbers[0], (1, 0) + tuple(range(2, numbers[0])), tuple(range(numbers[0]))]
    if word == "grids":
        many, modulus = numbers
        if many == 1:
            return [((value,),) for value in range(modulus)]
        cells = range(min(modulus, 2))
        if many == 2:
            return [(cell[:2], cell[2:]) for cell in product(cells, repeat=4)]
        return [((0, 1, 2), (3, 4, 0), (1, 1, 1)), ((1, 0, 0), (0, 1, 0), (0, 0, 1)), ((0,) * 3,) * 3,
                ((4, 4, 0), (0, 3, 2), (0, 0, 1)), ((0, 1, 0), (0, 0, 0), (0, 0, 0))]
    if word == "brackets":
        return [(0, 0), (0, 1), (1, 0), (1, 1), (0, 3), (2, 1), (3, 3), (helpers.HUGE, 0), (0, helpers.HUGE)]
    if word == "spans":
        return [None] + STRETCHES
    return [(0,) * numbers[0], (1,) * numbers[0], tuple(range(numbers[0])), (helpers.HUGE,) * numbers[0]]


def bracket_row(value):
    return ")" * value[0] + "(" * value[1]


def left_over(text):
    while "()" in text:
        text = text.replace("()", "")
    return (text.count(")"), text.count("("))


def due_join(operation, one, other):
    """What [4] says that two values come to, by another way than the program's."""
    word = operation[0]
    if word == "sum":
        return divmod(one + other, operation[1])[1]
    if word == "product":
        return divmod(one * other, operation[1])[1]
    if word == "most":
        return sorted((one, other))[1]
    if word == "least":
        return sorted((one, other))[0]
    if word == "first":
        return one
    if word == "last":
        return other
    if word == "or":
        return one + other - (one & other)
    if word == "maps":
        result = list(one)
        for at in range(operation[1]):
            result[at] = other[one[at]]
        return tuple(result)
    if word == "grids":
        many, modulus = operation[1:]
        result = [[0] * many for _ in range(many)]
        for row, column, middle in product(range(many), repeat=3):
            result[row][column] += one[row][middle] * other[middle][column]
        return tuple(tuple(cell % modulus for cell in row) for row in result)
    if word == "brackets":
        if max(one + other) > 9:
            met = one[1] if one[1] < other[0] else other[0]
            return (one[0] + other[0] - met, one[1] + other[1] - met)
        return left_over(bracket_row(one) + bracket_row(other))
    if word == "spans":
        return (one[0], other[1]) if one and other and one[1] == other[0] else None
    return tuple(one[at] + other[at] for at in range(operation[1]))


WRONG_VALUES = {
    "sum": (None, True, False, -1, 7, 8, "1", (), (1,), []),
    "product": (None, True, False, -1, 6, 7, "1", (), (1,), []),
    "most": helpers.NOT_INTEGERS, "least": helpers.NOT_INTEGERS,
    "first": helpers.NOT_INTEGERS, "last": helpers.NOT_INTEGERS,
    "or": helpers.NOT_NUMBERS,
    "maps": (None, 0, (), (0, 1), (0, 1, 2, 0), (0, 1, 3), (0, 1, -1), (0, 1, True), (False, 1, 2), [0, 1, 2], "012",
             (0, 1, None), (0, 1, (2,))),
    "grids": (None, 0, (), (0, 1), ((0, 1),), ((0, 1), (0, 1), (0, 1)), ((0, 1, 0), (0, 1, 0)), ((0, 1), (0,)),
              ((0, 1), (0, 5)), ((0, 1), (0, -1)), ((0, 1), (0, True)), ((False, 1), (0, 1)), [(0, 1), (0, 1)],
              ([0, 1], [0, 1]), ((0, 1), None), ((0, 1), (0, "1"))),
    "brackets": (None, 0, (), (1,), (1, 2, 3), (-1, 0), (0, -1), (True, 0), (0, False), [0, 1], ("0", 1), "01"),
    "spans": (True, 0, "", "nought") + helpers.NOT_STRETCHES[8:],
    "counts": (None, 0, (), (1,), (1, 2, 3), (-1, 0), (0, -1), (True, 0), (0, False), [0, 1], ("0", 1), "01"),
}
SOME = (("sum", 7), ("product", 6), ("most",), ("least",), ("first",), ("last",), ("or",), ("maps", 3),
        ("grids", 2, 5), ("brackets",), ("spans",), ("counts", 2))


class TestOperations(unittest.TestCase):
    def test_examples(self):
        got = [join_two(("maps", 3), (1, 2, 2), (2, 0, 1)), join_two(("brackets",), (0, 3), (1, 2))]
        check_same(self, got, [(0, 1, 1), (0, 4)])

    def test_is_operation(self):
        for thing in helpers.OPERATIONS + (("counts", 120), ("grids", 3, 10 ** 12), ("sum", helpers.SIXTY)):
            self.assertIs(is_operation(thing), True, thing)
        for thing in helpers.NOT_OPERATIONS:
            self.assertIs(is_operation(thing), False, thing)

    def test_values(self):
        for operation in helpers.OPERATIONS:
            for value in sample(operation):
                self.assertIs(is_value(operation, value), True, (operation, value))

    def test_no_values(self):
        for operation in SOME:
            for value in WRONG_VALUES[operation[0]]:
                self.assertIs(is_value(operation, value), False, (operation, value))

    def test_bounds_of_values(self):
        for operation in (("sum", 5), ("product", 5)):
            check_same(self, [is_value(operation, value) for value in (0, 4, 5)], [True, True, False])
        check_same(self, [is_value(("maps", 1), (0,)), is_value(("maps", 1), (1,))], [True, False])
        check_same(self, [is_value(("grids", 1, 1), ((0,),)), is_value(("grids", 1, 1), ((1,),))], [True, False])
        check_same(self, [is_value(("sum", 1), 0), is_value(("sum", 1), 1)], [True, False])
        # Without a bound: things that are only looked at may be greater than what is passed in otherwise.
        for operation, value in ((("most",), -helpers.SIXTY), (("or",), helpers.SIXTY), (("spans",), (0, helpers.SIXTY))):
            self.assertIs(is_value(operation, value), True)

    def test_join_two(self):
        for operation in helpers.OPERATIONS:
            for one, other in product(sample(operation), repeat=2):
                got = join_two(operation, one, other)
                check_same(self, got, due_join(operation, one, other))
                self.assertIs(is_value(operation, got), True)

    def test_joined_in_this_sequence(self):
        check_same(self, [join_two(("first",), 3, 4), join_two(("last",), 3, 4)], [3, 4])
        check_same(self, [join_two(("most",), -3, 4), join_two(("least",), -3, 4)], [4, -3])
        check_same(self, [join_two(("spans",), (0, 2), (2, 5)), join_two(("spans",), (2, 5), (0, 2))], [(0, 5), None])
        check_same(self, join_two(("grids", 2, 9), ((1, 2), (3, 4)), ((0, 1), (1, 1))), ((2, 3), (4, 7)))
        check_same(self, [join_two(("or",), 5, 6), join_two(("counts", 2), (1, 2), (3, 4))], [7, (4, 6)])

    def test_all_are_associative(self):
        for operation in helpers.OPERATIONS:
            for one, other, third in product(sample(operation)[:9], repeat=3):
                left = join_two(operation, join_two(operation, one, other), third)
                right = join_two(operation, one, join_two(operation, other, third))
                check_same(self, left, right)

    def test_commutes(self):
        for operation in helpers.OPERATIONS:
            values = sample(operation)
            due = all(due_join(operation, one, other) == due_join(operation, other, one)
                      for one in values for other in values)
            self.assertIs(commutes(operation), due, operation)

    def test_keeps_same(self):
        for operation in helpers.OPERATIONS:
            due = all(due_join(operation, value, value) == value for value in sample(operation))
            self.assertIs(keeps_same(operation), due, operation)

    def test_all_small_numbers_of_an_operation(self):
        for many in range(1, 4):
            check_same(self, [commutes(("maps", many)), keeps_same(("maps", many))], [many == 1, many == 1])
            check_same(self, [commutes(("counts", many)), keeps_same(("counts", many))], [True, False])
            for modulus in range(1, 4):
                check_same(self, commutes(("grids", many, modulus)), many == 1 or modulus == 1)
                due = modulus == 1 or (many == 1 and modulus == 2)
                check_same(self, keeps_same(("grids", many, modulus)), due)

    def test_idle_pairs(self):
        without = {"sum", "first", "last", "spans", "counts"}
        single = {("product", 1), ("maps", 1), ("grids", 1, 1), ("grids", 2, 1)}
        for operation in helpers.OPERATIONS:
            pair = idle_pair(operation)
            if operation[0] in without or operation in single:
                self.assertIsNone(pair, operation)
                continue
            self.assertIs(type(pair), tuple)
            x, y = pair
            self.assertTrue(is_value(operation, x) and is_value(operation, y), operation)
            self.assertNotEqual(x, y)
            check_same(self, due_join(operation, x, x), x)
            check_same(self, due_join(operation, y, y), y)
            check_same(self, due_join(operation, x, y), y)
            check_same(self, due_join(operation, y, x), y)

    def test_parameters(self):
        bad = {"operation": helpers.NOT_OPERATIONS}
        for function in (commutes, keeps_same, idle_pair):
            check_parameters(self, function, {"operation": ("sum", 3)}, bad)
        for operation in helpers.NOT_OPERATIONS:
            check_unusable(self, "operation", -1, is_value, operation, 0)
            check_unusable(self, "operation", -1, is_value, thing=0, operation=operation)
        for operation in SOME:
            value = sample(operation)[-1]
            wrong = WRONG_VALUES[operation[0]]
            check_parameters(self, join_two, {"operation": operation, "one": value, "other": value},
                             {"operation": helpers.NOT_OPERATIONS, "one": wrong, "other": wrong})


if __name__ == "__main__":
    unittest.main()
