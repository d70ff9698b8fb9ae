"""Heaps of pieces: which pieces they have, and which they lack."""

from latewood.errors import Clash
from latewood.pieces import COUNT, HOUSE, RUN, is_clash

# How many unlike pieces there are at most.
MOST_PIECES = 60


def cleared(heap):
    """Tell the unlike pieces of a heap, a rising list, or refuse it with Clash."""
    pieces = sorted(set(heap))
    pair = least_clash(pieces)
    if pair is not None:
        raise Clash(pair)
    return pieces


def least_clash(pieces):
    """Tell the least pair of pieces that clash, of a rising list, or None."""
    # The pairs come in rising order here, so the first that clashes is the least.
    for at, piece in enumerate(pieces):
        for other in pieces[at + 1:]:
            if is_clash(piece, other):
                return (piece, other)
    return None


def runs_of(heap):
    """Tell the runs of a heap, a rising list."""
    return sorted({piece[RUN] for piece in cleared(heap)})


def houses_of(heap):
    """Tell the houses of a heap, a rising list."""
    return sorted({piece[HOUSE] for piece in cleared(heap)})


def holes_of(heap):
    """Tell the holes of a heap, a rising list of tuples (house, count)."""
    counts = {}
    for piece in cleared(heap):
        counts.setdefault(piece[HOUSE], []).append(piece[COUNT])
    holes = []
    for house in sorted(counts):
        for count in range(max(counts[house])):
            if count not in counts[house]:
                holes.append((house, count))
    return holes
