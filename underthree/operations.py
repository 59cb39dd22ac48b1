"""The operations: which there are, their values, what two values come to, what holds for them."""

from underthree.kinds import is_group, is_integer, is_number, is_positive, is_stretch
from underthree.needs import need

# How many numbers stand behind the word of an operation.
NUMBERS_BEHIND = {
    "sum": 1,
    "product": 1,
    "most": 0,
    "least": 0,
    "first": 0,
    "last": 0,
    "or": 0,
    "maps": 1,
    "grids": 2,
    "brackets": 0,
    "spans": 0,
    "counts": 1,
}


def is_operation(thing):
    """Whether thing is an operation."""
    if not isinstance(thing, tuple) or len(thing) == 0:
        return False
    word = thing[0]
    # A word that is a list could not be looked up.
    if not isinstance(word, str) or word not in NUMBERS_BEHIND:
        return False
    return len(thing) == 1 + NUMBERS_BEHIND[word] and all([is_positive(number) for number in thing[1:]])


def _is_row(thing, many):
    return is_group(thing, many) and all([is_number(value) for value in thing])


def _is_row_below(thing, many, bound):
    return _is_row(thing, many) and all([value < bound for value in thing])


def _fits_below(operation, thing):
    return is_number(thing) and thing < operation[1]


def _fits_integer(_, thing):
    return is_integer(thing)


def _fits_number(_, thing):
    return is_number(thing)


def _fits_map(operation, thing):
    return _is_row_below(thing, operation[1], operation[1])


def _fits_grid(operation, thing):
    many, modulus = operation[1:]
    return is_group(thing, many) and all([_is_row_below(row, many, modulus) for row in thing])


def _fits_bracket(_, thing):
    return _is_row(thing, 2)


def _fits_span(_, thing):
    return thing is None or is_stretch(thing)


def _fits_counts(operation, thing):
    return _is_row(thing, operation[1])


FITTING = {
    "sum": _fits_below,
    "product": _fits_below,
    "most": _fits_integer,
    "least": _fits_integer,
    "first": _fits_integer,
    "last": _fits_integer,
    "or": _fits_number,
    "maps": _fits_map,
    "grids": _fits_grid,
    "brackets": _fits_bracket,
    "spans": _fits_span,
    "counts": _fits_counts,
}


def fits(operation, thing):
    """Whether thing is a value of the operation, which is one."""
    fitting = FITTING[operation[0]]
    return fitting(operation, thing)


def is_value(operation, thing):
    """Whether thing is a value of the operation."""
    need(is_operation(operation), "operation")
    return fits(operation, thing)


def commutes(operation):
    """Whether both sequences of any two values come to the same."""
    need(is_operation(operation), "operation")
    word = operation[0]
    if word == "maps":
        return operation[1] == 1
    if word == "grids":
        return operation[1] == 1 or operation[2] == 1
    return word in ("sum", "product", "most", "least", "or", "counts")


def keeps_same(operation):
    """Whether each value, joined with itself, comes to itself."""
    need(is_operation(operation), "operation")
    word = operation[0]
    if word in ("sum", "maps"):
        return operation[1] == 1
    if word == "product":
        return operation[1] <= 2
    if word == "grids":
        return operation[2] == 1 or (operation[1] == 1 and operation[2] == 2)
    return word in ("most", "least", "first", "last", "or")


def _join_sum(operation, one, other):
    return (one + other) % operation[1]


def _join_product(operation, one, other):
    return (one * other) % operation[1]


def _join_most(_, one, other):
    return max(one, other)


def _join_least(_, one, other):
    return min(one, other)


def _join_first(_, one, other):
    return one


def _join_last(_, one, other):
    return other


def _join_or(_, one, other):
    return one | other


def _join_maps(_, one, other):
    return tuple([other[at] for at in one])


def _join_grids(operation, one, other):
    columns = list(zip(*other))
    return tuple([tuple([_cell(row, column, operation[2]) for column in columns]) for row in one])


def _cell(row, column, modulus):
    return sum([left * right for left, right in zip(row, column)]) % modulus


def _join_brackets(_, one, other):
    met = min(one[1], other[0])
    return (one[0] + other[0] - met, one[1] + other[1] - met)


def _join_spans(_, one, other):
    if one is None or other is None or one[1] != other[0]:
        return None
    return (one[0], other[1])


def _join_counts(_, one, other):
    return tuple([left + right for left, right in zip(one, other)])


JOINING = {
    "sum": _join_sum,
    "product": _join_product,
    "most": _join_most,
    "least": _join_least,
    "first": _join_first,
    "last": _join_last,
    "or": _join_or,
    "maps": _join_maps,
    "grids": _join_grids,
    "brackets": _join_brackets,
    "spans": _join_spans,
    "counts": _join_counts,
}


def joined(operation, one, other):
    """What two values of the operation come to; nothing is checked."""
    joining = JOINING[operation[0]]
    return joining(operation, one, other)


def join_two(operation, one, other):
    """What one and other, joined in this sequence, come to."""
    need(is_operation(operation), "operation")
    need(fits(operation, one), "one")
    need(fits(operation, other), "other")
    return joined(operation, one, other)


def idle_pair(operation):
    """An idle pair of the operation, None if it has none."""
    need(is_operation(operation), "operation")
    word = operation[0]
    if word == "maps":
        return _idle_maps(operation[1])
    if word == "grids":
        return _idle_grids(operation[1], operation[2])
    if word == "product":
        return (1, 0) if operation[1] > 1 else None
    if word in ("most", "or"):
        return (0, 1)
    if word == "least":
        return (1, 0)
    if word == "brackets":
        return ((0, 0), (1, 1))
    # Of sums, counts and spans one value alone stays itself; of first and last no pair comes to one of the two.
    return None


def _idle_maps(many):
    if many == 1:
        return None
    return (tuple(range(many)), (0,) * many)


def _idle_grids(many, modulus):
    if modulus == 1:
        return None
    unit = tuple([tuple([1 if row == column else 0 for column in range(many)]) for row in range(many)])
    return (unit, ((0,) * many,) * many)
