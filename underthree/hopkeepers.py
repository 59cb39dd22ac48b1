"""Programs for windows that hop: whole blocks are kept as the elements of a cutting."""

from underthree.cuttingkinds import is_cutting
from underthree.keepers import chain_rows, kept_in
from underthree.kinds import is_positive
from underthree.means import blocks_of
from underthree.needs import need


def hop_program(width, hop, cutting):
    """The program of the cutting for the asks (width, hop)."""
    need(is_positive(width), "width")
    need(is_positive(hop) and hop <= width, "hop")
    blocks, rest = blocks_of(width, hop)
    need(is_cutting(cutting) and cutting[0] == blocks + 1, "cutting")
    phases = [_phase(cutting, hop, rest, block, part) for block in range(blocks + 1) for part in range(hop)]
    return (blocks + (2 if rest == 0 else 3), tuple(phases))


def _phase(cutting, hop, rest, block, part):
    corners = cutting[0]
    own = kept_in(corners, block)
    rows = [(own, 0) if part == 0 else (own, own, 0)]
    told = None
    if part == rest - 1:
        told = corners + 1
        rows.append((told, kept_in(corners, block + 1), own))
    if part == hop - 1:
        rows.extend(chain_rows(cutting, block + 1))
        if rest == 0:
            told = kept_in(corners, block + 2)
    return (tuple(rows), told)
