"""How cuts make stretches: as brackets, how deep, and which cuts are needed."""

from underthree.cutkinds import is_cuts, made_by, need_made
from underthree.kinds import is_stretch
from underthree.needs import need


def bracket_line(cuts, stretch):
    """How the stretch is made, its parts in round brackets."""
    need_stretch(cuts, stretch)
    lines = {}
    for low, cut, high in needed_for(cuts, (stretch,)):
        first = lines.get((low, cut), str(low))
        second = lines.get((cut, high), str(cut))
        lines[(low, high)] = f"({first} {second})"
    return lines.get(stretch, str(stretch[0]))


def depth_of(cuts, stretch):
    """How many joins stand one in the other at most."""
    need_stretch(cuts, stretch)
    depths = {}
    for low, cut, high in needed_for(cuts, (stretch,)):
        depths[(low, high)] = 1 + max(depths.get((low, cut), 0), depths.get((cut, high), 0))
    return depths.get(stretch, 0)


def needed_cuts(cuts, asks):
    """The triples that the asks need."""
    need_made(cuts, asks)
    return needed_for(cuts, asks)


def needed_for(cuts, stretches):
    """The triples that make the stretches and their parts; nothing is checked."""
    wanted = {stretch: True for stretch in stretches}
    needed = []
    # Parts are made by earlier triples, so from the last one on all that needs a stretch is known.
    for low, cut, high in reversed(cuts):
        if (low, high) in wanted:
            wanted[(low, cut)] = True
            wanted[(cut, high)] = True
            needed.append((low, cut, high))
    return tuple(reversed(needed))


def need_stretch(cuts, stretch):
    """Raise NotUsable unless cuts are cuts, and the stretch is of one element or made by them."""
    need(is_cuts(cuts), "cuts")
    need(is_stretch(stretch) and (stretch[1] - stretch[0] == 1 or stretch in made_by(cuts)), "stretch")
