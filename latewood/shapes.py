"""Shapes of whole runs, and runs held against one another by them."""

from latewood.errors import NotWhole
from latewood.pieces import ASKER, HOUSE, JOINED, NO_ASKER
from latewood.shifts import are_rows
from latewood.woods import is_whole_run, kids_of, pieces_of, tops_of


def shape_of(heap, run):
    """Tell the shape of a whole run: that of its top, a text."""
    pieces = whole_pieces(heap, run)
    return shape_from(pieces, kids_of(pieces), tops_of(pieces)[0])


def shapes_held(heap, one, other):
    """Tell of two whole runs ("alike", pairs), or ("unlike", shape, one, other) with how many have the shape."""
    pieces = whole_pieces(heap, one)
    others = whole_pieces(heap, other)
    shapes = list(shapes_in(pieces).values())
    other_shapes = list(shapes_in(others).values())
    # The longest shape of all is a top's, and no other piece of that run has it: so where the
    # tops' shapes differ, some shape is not as many times in both runs.
    for shape in shapes + other_shapes:
        if shapes.count(shape) != other_shapes.count(shape):
            return ("unlike", shape, shapes.count(shape), other_shapes.count(shape))
    tops = (tops_of(pieces)[0], tops_of(others)[0])
    return ("alike", sorted(pairs_beneath(kids_by_shape(pieces), kids_by_shape(others), tops)))


def are_pairs(heap, one, other, thing):
    """Tell of anything whether it is pairs of the pieces of two whole runs by which these are alike."""
    pieces = whole_pieces(heap, one)
    others = whole_pieces(heap, other)
    if not are_rows(thing) or [row[0] for row in thing] != list(pieces):
        return False
    if sorted([row[1] for row in thing]) != list(others):
        return False
    partners = dict(thing)
    return all([is_partner(pieces[number], others[partners[number]], partners) for number in pieces])


def is_partner(piece, other, partners):
    """Tell whether two pieces are alike in house and joined, and both tops or their askers paired."""
    if piece[HOUSE] != other[HOUSE] or piece[JOINED] != other[JOINED]:
        return False
    return partners.get(piece[ASKER], NO_ASKER) == other[ASKER]


def whole_pieces(heap, run):
    """Tell a whole run's pieces: a dict by their numbers, or refuse it with NoRun or NotWhole."""
    if not is_whole_run(heap, run):
        raise NotWhole("the run is not whole")
    return pieces_of(heap, run)


def shape_from(pieces, kids, number):
    """Tell the shape of a piece of a whole run."""
    shape = str(pieces[number][HOUSE]) + ("j" if pieces[number][JOINED] else "u")
    if number not in kids:
        return shape
    return shape + "(" + ",".join(sorted([shape_from(pieces, kids, kid) for kid in kids[number]])) + ")"


def shapes_in(pieces):
    """Tell the shapes of a whole run's pieces: a dict by their numbers."""
    kids = kids_of(pieces)
    return {number: shape_from(pieces, kids, number) for number in pieces}


def kids_by_shape(pieces):
    """Tell for whom each piece of a whole run asked: a dict to lists sorted by shapes."""
    kids = kids_of(pieces)
    shapes = shapes_in(pieces)
    in_order = {}
    for number in kids:
        in_order[number] = [kid for _, kid in sorted([(shapes[low], low) for low in kids[number]])]
    return in_order


def pairs_beneath(kids, other_kids, pair):
    """Tell a pair of pieces of one shape, and the pairs of all beneath them."""
    pairs = [pair]
    # The kids stand sorted by shapes, and pieces of one shape have kids of the same shapes.
    for low_pair in zip(kids.get(pair[0], []), other_kids.get(pair[1], [])):
        pairs += pairs_beneath(kids, other_kids, low_pair)
    return pairs
