"""Operations and their values as lines, there and back."""

from underthree.errors import InvalidText
from underthree.figures import end_at, integer_in, number_in, part_at
from underthree.needs import need
from underthree.operations import NUMBERS_BEHIND, fits, is_operation

NOUGHT = "nought"


def operation_line(operation):
    """The word and the numbers of the operation."""
    need(is_operation(operation), "operation")
    return " ".join([str(part) for part in operation])


def value_line(operation, value):
    """The integers of the value, from left to right, or the word for nought."""
    need(is_operation(operation), "operation")
    need(fits(operation, value), "value")
    if value is None:
        return NOUGHT
    if isinstance(value, int):
        return str(value)
    if operation[0] == "grids":
        return " ".join([str(number) for row in value for number in row])
    return " ".join([str(number) for number in value])


def read_operation(text):
    """The operation whose line is the text."""
    need(isinstance(text, str), "text")
    parts = text.split(" ")
    word = parts[0]
    if word not in NUMBERS_BEHIND:
        raise InvalidText(0, 0)
    wanted = 1 + NUMBERS_BEHIND[word]
    numbers = []
    for at in range(1, wanted):
        number = number_in(part_at(parts, at))
        if number is None or number == 0:
            raise InvalidText(0, at)
        numbers.append(number)
    end_at(parts, wanted)
    return (word, *numbers)


def read_value(operation, text):
    """The value of the operation whose line is the text."""
    need(is_operation(operation), "operation")
    need(isinstance(text, str), "text")
    parts = text.split(" ")
    if operation[0] == "spans" and parts[0] == NOUGHT:
        end_at(parts, 1)
        return None
    wanted = _integers_of(operation)
    integers = []
    for at in range(wanted):
        integer = _integer_at(operation, part_at(parts, at))
        # A stretch is told by two numbers, and the second one has to be the greater one.
        if integer is None or (operation[0] == "spans" and at == 1 and integer <= integers[0]):
            raise InvalidText(0, at)
        integers.append(integer)
    end_at(parts, wanted)
    return _value_of(operation, integers)


def _integers_of(operation):
    word = operation[0]
    if word in ("maps", "counts"):
        return operation[1]
    if word == "grids":
        return operation[1] * operation[1]
    return 2 if word in ("brackets", "spans") else 1


def _integer_at(operation, part):
    word = operation[0]
    if word in ("most", "least", "first", "last"):
        return integer_in(part)
    number = number_in(part)
    # The last number of these operations is the bound of what their values are made of.
    if number is not None and word in ("sum", "product", "maps", "grids") and number >= operation[-1]:
        return None
    return number


def _value_of(operation, integers):
    word = operation[0]
    if word == "grids":
        many = operation[1]
        return tuple([tuple(integers[many * row:many * (row + 1)]) for row in range(many)])
    if word in ("maps", "counts", "brackets", "spans"):
        return tuple(integers)
    return integers[0]
