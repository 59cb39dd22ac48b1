"""By how much the least falls without an element or an ask."""

from underthree.askrows import covered, wide_asks
from underthree.leasts import ask_least, element_least, least_of


def element_falls(queue):
    """The pairs of each element within a wide ask and of the loss by its strike."""
    least = least_of(queue)
    within = covered(wide_asks(queue))
    return tuple([(element, least - element_least(queue, element)) for element in within])


def ask_falls(queue):
    """For each place of the row how much less the least is without the ask."""
    least = least_of(queue)
    return tuple([least - ask_least(queue, at) for at in range(len(queue))])


def worst_asks(queue):
    """The lot of the places at which the least falls most."""
    falls = ask_falls(queue)
    return tuple([at for at, fall in enumerate(falls) if fall == max(falls)])
