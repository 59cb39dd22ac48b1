"""What the parts of a line tell: integers in figures, stretches, and marks behind them."""

from underthree.errors import InvalidText


def number_in(part):
    """The number that the part tells in figures, without a leading zero; else None."""
    if not part.isascii() or not part.isdigit():
        return None
    if len(part) > 1 and part.startswith("0"):
        return None
    return int(part)


def integer_in(part):
    """The integer that the part tells, a minus ahead if it is below 0; else None."""
    if not part.startswith("-"):
        return number_in(part)
    number = number_in(part[1:])
    if number is None or number == 0:
        return None
    return -number


def stretch_in(part):
    """The stretch that the part tells, its two numbers with - between; else None."""
    first, _, second = part.partition("-")
    low = number_in(first)
    high = number_in(second)
    if low is None or high is None or low >= high:
        return None
    return (low, high)


def part_at(parts, at):
    """The part at this place; the text ends too soon if there is none."""
    if at >= len(parts):
        raise InvalidText(0, len(parts))
    return parts[at]


def end_at(parts, at):
    """Raise InvalidText for the part at this place, which is one too many, if there is one."""
    if at < len(parts):
        raise InvalidText(0, at)


def unmarked(part, marks):
    """The pair of the part without its mark and the mark, "" if none of the marks ends it."""
    if part != "" and part[-1] in marks:
        return (part[:-1], part[-1])
    return (part, "")
