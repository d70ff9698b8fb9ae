"""Woods of runs: which piece asked for which."""

from latewood.errors import NoPiece, NoRun, NoWood
from latewood.heaps import cleared
from latewood.pieces import ASKER, NO_ASKER, NUMBER, RUN, is_whole


def wood_of(heap, run):
    """Tell ("wood", tops, gaps, kids) of a run, or ("ring", numbers)."""
    pieces = pieces_of(heap, run)
    ring = least_ring(pieces)
    if ring is not None:
        return ("ring", ring)
    kids = kids_of(pieces)
    gaps = [asker for asker in kids if asker not in pieces]
    return ("wood", tops_of(pieces), gaps, kids)


def is_whole_run(heap, run):
    """Tell whether a run has a wood with one top and without gaps."""
    wood = wood_of(heap, run)
    return wood[0] == "wood" and len(wood[1]) == 1 and not wood[2]


def way_up(heap, run, number):
    """Tell the numbers from that of a piece up to a top or a gap; of a gap it alone."""
    pieces = pieces_of(heap, run)
    refuse_no_piece(pieces, number)
    way = numbers_up(pieces, number)
    if asker_of(pieces, way[-1]) != NO_ASKER:
        raise NoWood("the way up comes to pieces that ask one another round")
    return way


def beneath(heap, run, number):
    """Tell the numbers of all pieces beneath a piece or a gap, a rising list."""
    pieces = pieces_of(heap, run)
    refuse_no_piece(pieces, number)
    if least_ring(pieces) is not None:
        raise NoWood("the run has pieces that ask one another round")
    return [low for low in pieces if number in numbers_up(pieces, low)[1:]]


def pieces_of(heap, run):
    """Tell a run's pieces: a dict by their numbers, which rise, or refuse it with NoRun."""
    pieces = cleared(heap)
    # True and False equal the runs 1 and 0, but are none.
    if not is_whole(run) or run not in [piece[RUN] for piece in pieces]:
        raise NoRun("the heap has no piece of such a run")
    return {piece[NUMBER]: piece for piece in pieces if piece[RUN] == run}


def refuse_no_piece(pieces, number):
    """Refuse with NoPiece what is neither the number of a run's piece nor of its gap."""
    if not is_whole(number) or (number not in pieces and number not in kids_of(pieces)):
        raise NoPiece("the run has no piece and no gap of such a number")


def tops_of(pieces):
    """Tell the numbers of a run's tops, a rising list."""
    return [number for number in pieces if pieces[number][ASKER] == NO_ASKER]


def kids_of(pieces):
    """Tell for whom each number asked in a run: a dict, rising, to rising lists."""
    kids = {}
    for asker in sorted({piece[ASKER] for piece in pieces.values()}):
        if asker != NO_ASKER:
            kids[asker] = [number for number in pieces if pieces[number][ASKER] == asker]
    return kids


def asker_of(pieces, number):
    """Tell the asker of a run's piece; a gap's is not known."""
    return pieces[number][ASKER] if number in pieces else NO_ASKER


def numbers_up(pieces, number):
    """Tell the numbers from one up to a top, to a gap, or to where a ring closes."""
    way = []
    while number != NO_ASKER and number not in way:
        way.append(number)
        number = asker_of(pieces, number)
    return way


def least_ring(pieces):
    """Tell the ring of a run that has the least number, from that one on, or None."""
    # The numbers rise, so the first that is come back to is the least of all in rings.
    for number in pieces:
        way = numbers_up(pieces, number)
        if asker_of(pieces, way[-1]) == number:
            return tuple(way)
    return None
