"""Right runs done anew with more time, and how much more each piece might take."""

from latewood.errors import NoMore
from latewood.pieces import BEGIN, END, JOINED, held_till, is_whole
from latewood.ways import right_pieces
from latewood.woods import kids_of, refuse_no_piece, tops_of


def done_anew(heap, run, more):
    """Tell a right run's pieces, rising, done anew with more time, a dict by their numbers."""
    pieces = right_pieces(heap, run)
    if not is_more(pieces, more):
        raise NoMore("more time is a dict from numbers of the run's pieces to whole numbers from 0 on")
    anew = run_anew(pieces, more)
    return [anew[number] for number in pieces]


def slack_of(heap, run, number):
    """Tell the greatest more time of a piece by which the top's end is as it was, None where any is."""
    pieces = right_pieces(heap, run)
    refuse_no_piece(pieces, number)
    top = tops_of(pieces)[0]
    # No piece ends ahead of the top's begin, so no slack is as great as this.
    far = pieces[top][END] - pieces[top][BEGIN] + 1
    late = run_anew(pieces, {number: far})[top][END] - pieces[top][END]
    return far - late if late > 0 else None


def is_more(pieces, thing):
    """Tell of anything whether it is a dict from numbers of pieces to whole numbers from 0 on."""
    if not isinstance(thing, dict) or not all([is_whole(number) and number in pieces for number in thing]):
        return False
    return all([is_whole(long) and long >= 0 for long in thing.values()])


def run_anew(pieces, more):
    """Tell a right run's pieces done anew: a dict by their numbers."""
    top = tops_of(pieces)[0]
    return piece_anew(pieces, kids_of(pieces), more, top, pieces[top][BEGIN])


def piece_anew(pieces, kids, more, number, begin):
    """Tell a piece, and all beneath it, done anew where it begins then: a dict by their numbers."""
    anew = {}
    mine = kids.get(number, [])
    # The kids that a kid waits for began ahead of it, so they are done anew by then.
    for _, kid in sorted([(pieces[low][BEGIN], low) for low in mine]):
        ends = ended_by(pieces, mine, pieces[kid][BEGIN])
        start = max([pieces[number][BEGIN]] + [pieces[low][END] for low in ends])
        start_anew = max([begin] + [anew[low][END] for low in ends])
        anew.update(piece_anew(pieces, kids, more, kid, start_anew + pieces[kid][BEGIN] - start))
    rest = max([pieces[number][BEGIN]] + [held_till(pieces[low]) for low in mine])
    rest_anew = max([begin] + [held_till(anew[low]) for low in mine])
    end = rest_anew + pieces[number][END] - rest + more.get(number, 0)
    anew[number] = pieces[number][:BEGIN] + (begin, end) + pieces[number][JOINED:]
    return anew


def ended_by(pieces, kids, then):
    """Tell which of a piece's kids are joined, take time and end by then."""
    return [kid for kid in kids if pieces[kid][JOINED] and pieces[kid][BEGIN] < pieces[kid][END] <= then]
