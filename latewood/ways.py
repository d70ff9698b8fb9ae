"""Runs by one clock: whether they are right, and the way on which a run's end hangs."""

from latewood.errors import NoShifts, NotRight
from latewood.heaps import cleared
from latewood.pieces import ASKER, BEGIN, END, HOUSE, JOINED, NO_ASKER, held_till
from latewood.shifts import are_shifts
from latewood.woods import is_whole_run, kids_of, pieces_of, tops_of


def shifted(heap, rows):
    """Tell the pieces of a heap, rising, by the clocks that rows of shifts make one."""
    if not are_shifts(heap, rows):
        raise NoShifts("the rows are no shifts that keep all ties of the heap")
    shifts = dict(rows)
    return [moved(piece, shifts[piece[HOUSE]]) for piece in cleared(heap)]


def moved(piece, shift):
    """Tell a piece with its begin and end shifted."""
    return piece[:BEGIN] + (piece[BEGIN] + shift, piece[END] + shift) + piece[JOINED:]


def is_right(heap, run):
    """Tell whether a run is whole and each of its pieces lies within its asker as it stands."""
    if not is_whole_run(heap, run):
        return False
    pieces = pieces_of(heap, run)
    asked = [piece for piece in pieces.values() if piece[ASKER] != NO_ASKER]
    return all([lies_within(piece, pieces[piece[ASKER]]) for piece in asked])


def lies_within(piece, asker):
    """Tell whether a piece lies within its asker, both by one clock."""
    return asker[BEGIN] <= piece[BEGIN] and held_till(piece) <= asker[END]


def way_of(heap, run):
    """Tell the way of a right run: a list of shares (number, from, to), from its begin to its end."""
    pieces = right_pieces(heap, run)
    top = tops_of(pieces)[0]
    return shares_back(pieces, kids_of(pieces), top)[::-1]


def own_times(heap, run):
    """Tell the own time of each piece in the way of a right run: a dict by their numbers."""
    times = {}
    for number, begin, end in way_of(heap, run):
        times[number] = times.get(number, 0) + end - begin
    return times


def right_pieces(heap, run):
    """Tell a right run's pieces: a dict by their numbers, or refuse it with NoRun or NotRight."""
    if not is_right(heap, run):
        raise NotRight("the run is not right")
    return pieces_of(heap, run)


def shares_back(pieces, kids, number):
    """Tell the shares of a piece's way, the last one first."""
    shares = []
    till = pieces[number][END]
    kid = last_kid(pieces, kids.get(number, []), till)
    while kid is not None:
        shares += share(number, pieces[kid][END], till)
        shares += shares_back(pieces, kids, kid)
        till = pieces[kid][BEGIN]
        kid = last_kid(pieces, kids[number], till)
    return shares + share(number, pieces[number][BEGIN], till)


def share(number, begin, end):
    """Tell a list of the one share from begin to end, or of none where that is no time."""
    return [(number, begin, end)] if begin < end else []


def last_kid(pieces, kids, till):
    """Tell which of a piece's joined kids that take time is the last to end by then, or None."""
    ends = [
        (pieces[kid][END], pieces[kid][BEGIN], kid) for kid in kids
        if pieces[kid][JOINED] and pieces[kid][BEGIN] < pieces[kid][END] <= till
    ]
    return max(ends)[-1] if ends else None
