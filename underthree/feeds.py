"""The three operations that show whether a plan is right, each with its feed."""

from underthree.kinds import is_positive
from underthree.needs import need


def span_feed(size):
    """The operation of stretches, and the stretch of each element."""
    need(is_positive(size), "size")
    return (("spans",), tuple([(at, at + 1) for at in range(size)]))


def count_feed(size):
    """The operation of counts, and a tuple with one 1 for each element."""
    need(is_positive(size), "size")
    return (("counts", size), tuple([(0,) * at + (1,) + (0,) * (size - 1 - at) for at in range(size)]))


def bit_feed(size):
    """The operation of binary digits, and one digit for each element."""
    need(is_positive(size), "size")
    return (("or",), tuple([1 << at for at in range(size)]))
