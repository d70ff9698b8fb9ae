"""Shifts of the houses' clocks, or a ring of houses that shows that there are none."""

from latewood.heaps import cleared, houses_of
from latewood.pieces import ASKER, BEGIN, END, HOUSE, NUMBER, RUN, held_till, is_whole


def ties_of(heap):
    """Tell the ties of a heap, a rising list of tuples (y, x, most), one for each pair of houses."""
    pieces = cleared(heap)
    askers = {(piece[RUN], piece[NUMBER]): piece for piece in pieces}
    mosts = {}
    for piece in pieces:
        asker = askers.get((piece[RUN], piece[ASKER]))
        if asker is not None:
            for y, x, most in ties_between(piece, asker):
                mosts[y, x] = min(most, mosts.get((y, x), most))
    return [(y, x, mosts[y, x]) for y, x in sorted(mosts)]


def ties_between(piece, asker):
    """Tell the two ties that a piece and its asker bring."""
    return [
        (piece[HOUSE], asker[HOUSE], piece[BEGIN] - asker[BEGIN]),
        (asker[HOUSE], piece[HOUSE], asker[END] - held_till(piece)),
    ]


def shifts_of(heap):
    """Tell ("shifts", rows), by which all ties of a heap are kept, or ("ring", houses)."""
    chains = chains_of(heap)
    ring = ring_among(chains)
    if ring is not None:
        return ("ring", ring)
    return ("shifts", [(house, lowest(chains, house)) for house in houses_of(heap)])


def are_shifts(heap, thing):
    """Tell of anything whether it is rows of shifts by which all ties of a heap are kept."""
    ties = ties_of(heap)
    if not are_rows(thing) or [row[0] for row in thing] != houses_of(heap):
        return False
    shifts = dict(thing)
    return all([shifts[x] - shifts[y] <= most for y, x, most in ties])


def is_ring(heap, thing):
    """Tell of anything whether it is a ring of houses whose ties can't all be kept."""
    ties = ties_of(heap)
    if not are_numbers(thing):
        return False
    most = most_along(ties, thing + thing[:1])
    return most is not None and most < 0


def are_rows(thing):
    """Tell of anything whether it is a list of tuples of two whole numbers."""
    return isinstance(thing, list) and all([are_numbers(row) and len(row) == 2 for row in thing])


def are_numbers(thing):
    """Tell of anything whether it is a tuple of whole numbers."""
    return isinstance(thing, tuple) and all([is_whole(part) for part in thing])


def most_along(ties, houses):
    """Tell to what the ties from each house to the next one come, or None where one lacks."""
    mosts = {(y, x): most for y, x, most in ties}
    pairs = list(zip(houses, houses[1:]))
    if not all([pair in mosts for pair in pairs]):
        return None
    return sum([mosts[pair] for pair in pairs])


def chains_of(heap):
    """Tell of each two houses (y, x) that ties lead between (most, houses): the least most, and the way.

    Where a ring comes to less than 0 there is no least one, and such a ring is among what is told.
    """
    chains = {(y, x): (most, (y, x)) for y, x, most in ties_of(heap)}
    for house in houses_of(heap):
        # Where a ring comes to less than 0 chains could grow round it without end.
        if ring_among(chains) is None:
            chains = chains_by(chains, house)
    return chains


def chains_by(chains, house):
    """Tell what becomes of chains where they may also lead by a house."""
    less = {ends: chains[ends] for ends in chains}
    for y, x in chains:
        if x == house:
            for other, end in chains:
                if other == house:
                    keep_less(less, chains[y, x], chains[other, end])
    return less


def keep_less(chains, first, second):
    """Let two chains, one behind the other, be the chain from end to end where they come to less."""
    most = first[0] + second[0]
    houses = first[1] + second[1][1:]
    ends = (houses[0], houses[-1])
    if ends not in chains or most < chains[ends][0]:
        chains[ends] = (most, houses)


def ring_among(chains):
    """Tell the houses of a chain that comes round to less than 0, or None."""
    for y, x in chains:
        if y == x and chains[y, x][0] < 0:
            return chains[y, x][1][:-1]
    return None


def lowest(chains, house):
    """Tell the least most of the chains that end at a house, or 0."""
    # A tie (y, x) leads each chain that ends at y on to x, so by these as shifts it is kept.
    return min([0] + [chains[y, x][0] for y, x in chains if x == house])
