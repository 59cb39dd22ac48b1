"""Families of lots: of a plan, by definition, with an element struck."""

from underthree.askrows import wide_asks
from underthree.kinds import is_asks, is_lots, is_number
from underthree.needs import need
from underthree.plankinds import is_plan
from underthree.planvalues import lots_of


def family_of(plan, asks):
    """The lots of two or more elements, within wide asks, that names of the plan have."""
    need(is_plan(plan), "plan")
    need(is_asks(asks), "asks")
    wide = wide_asks(asks)
    lots = [lot for lot in lots_of(plan) if len(lot) >= 2 and lies_in(lot, wide)]
    return tuple(sorted(set(lots)))


def lies_in(lot, asks):
    """Whether the lot, not empty, lies within one of the asks; nothing is checked."""
    return any([low <= lot[0] and lot[-1] < high for low, high in asks])


def is_family(asks, thing):
    """Whether thing is a family of the asks."""
    need(is_asks(asks), "asks")
    wide = wide_asks(asks)
    if not is_lots(thing) or not all([lies_in(lot, wide) for lot in thing]):
        return False
    bits_of_lots = [_bits_of(lot) for lot in thing]
    if not all([_bits_of(list(range(low, high))) in bits_of_lots for low, high in wide]):
        return False
    return all([_is_union(lot, _bits_of(lot), bits_of_lots) for lot in thing])


def _bits_of(lot):
    return sum([1 << element for element in lot])


def _is_union(lot, bits, bits_of_lots):
    parts = [1 << element for element in lot]
    parts.extend([part for part in bits_of_lots if part != bits and (part | bits) == bits])
    for part in parts:
        rest = bits - part
        if any([(other & rest) == rest for other in parts]):
            return True
    return False


def partners_of(family, element):
    """The ascending tuple of the element's partners."""
    _need_family(family, element)
    return tuple(sorted(partners_in(family, element)))


def struck_family(family, element):
    """The lots without the element that have two or more elements left."""
    _need_family(family, element)
    return lots_without(family, element)


def fall_by(family, element):
    """How many partners the element has."""
    return len(partners_of(family, element))


def partners_in(family, element):
    """The list of the element's partners; nothing is checked."""
    known = {lot: True for lot in family}
    rests = [_without(lot, element) for lot in family if element in lot]
    return [rest for rest in rests if len(rest) == 1 or rest in known]


def lots_without(family, element):
    """The family with the element struck; nothing is checked."""
    rests = [_without(lot, element) for lot in family]
    return tuple(sorted(set([rest for rest in rests if len(rest) >= 2])))


def _need_family(family, element):
    need(is_lots(family), "family")
    need(is_number(element), "element")


def _without(lot, element):
    return tuple([one for one in lot if one != element])
