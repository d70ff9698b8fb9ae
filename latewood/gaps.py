"""Gaps of runs: the bounds of whoever fills one, all by one clock."""

from latewood.errors import NoGap, NoRun, NoWood, NotOne
from latewood.heaps import cleared
from latewood.pieces import ASKER, BEGIN, END, JOINED, NO_ASKER, NUMBER, RUN, held_till, is_clash, is_whole
from latewood.woods import pieces_of, tops_of, wood_of


def gap_of(heap, run, number):
    """Tell (first, last, until) of a gap: from when to when it begins, and from when on it ends."""
    wood = wood_of(heap, run)
    if wood[0] == "ring":
        raise NoWood("the run has pieces that ask one another round")
    _, tops, gaps, kids = wood
    if len(tops) > 1:
        raise NotOne("the run has two tops or more")
    if not is_whole(number) or number not in gaps:
        raise NoGap("the run has no gap of such a number")
    pieces = pieces_of(heap, run)
    asked = [pieces[kid] for kid in kids[number]]
    first = pieces[tops[0]][BEGIN] if tops else None
    last = min([kid[BEGIN] for kid in asked] + [pieces[top][END] for top in tops])
    return (first, last, max([held_till(kid) for kid in asked]))


def fills(heap, piece):
    """Tell whether a piece fills a gap of its run in a heap."""
    pieces = cleared(heap)
    try:
        first, last, until = gap_of(pieces, piece[RUN], piece[NUMBER])
    except (NoRun, NoWood, NotOne, NoGap):
        return False
    if any([is_clash(piece, other) for other in pieces]):
        return False
    if piece[JOINED] or piece[ASKER] != asker_for_gaps(pieces, piece[RUN]):
        return False
    # These bounds say just that it lies within the top, and its kids within it.
    return (first is None or first <= piece[BEGIN]) and piece[BEGIN] <= last and until <= piece[END]


def asker_for_gaps(heap, run):
    """Tell who asks for a piece that fills a gap: the top, or none where no top is known."""
    tops = tops_of(pieces_of(heap, run))
    return tops[0] if tops else NO_ASKER
