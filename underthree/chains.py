"""Chains: the stretches of a cutting that end at one place, in the sequence in which they are made."""

from underthree.neighbours import neighbour_lots


def chain_of(cutting, place):
    """
    The pairs (u, t), u falling: (u, place) is made of (u, t) and (t, place); nothing is checked.

    Places below 0 are told, too.
    """
    corners = cutting[0]
    lot = neighbour_lots(cutting)[place % corners]
    pairs = []
    ahead = place - 1
    for begin in range(place - 2, place - corners, -1):
        if begin % corners in lot:
            pairs.append((begin, ahead))
            ahead = begin
    return pairs
