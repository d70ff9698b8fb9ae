"""What a piece is, and which pieces clash."""

# The places of a piece.
RUN = 0
NUMBER = 1
ASKER = 2
HOUSE = 3
COUNT = 4
BEGIN = 5
END = 6
JOINED = 7
PLACES = 8

# The asker of a top.
NO_ASKER = -1

GREATEST_RUN = 99
GREATEST_NUMBER = 99
GREATEST_HOUSE = 7
GREATEST_COUNT = 999


def is_whole(thing):
    """Tell of anything whether it is a whole number."""
    # Python takes True and False for integers, too.
    return isinstance(thing, int) and not isinstance(thing, bool)


def is_piece(thing):
    """Tell of anything whether it is a piece."""
    if not isinstance(thing, tuple) or len(thing) != PLACES:
        return False
    if not all([is_whole(part) for part in thing[:JOINED]]) or not isinstance(thing[JOINED], bool):
        return False
    return stands_well(thing) and asked_well(thing) and thing[BEGIN] <= thing[END]


def stands_well(piece):
    """Tell whether run, number, house and count lie within their bounds."""
    if not (0 <= piece[RUN] <= GREATEST_RUN and 0 <= piece[NUMBER] <= GREATEST_NUMBER):
        return False
    return 0 <= piece[HOUSE] <= GREATEST_HOUSE and 0 <= piece[COUNT] <= GREATEST_COUNT


def asked_well(piece):
    """Tell whether the asker is one that the piece can have, and joined as it allows."""
    if piece[ASKER] == NO_ASKER:
        return not piece[JOINED]
    return 0 <= piece[ASKER] <= GREATEST_NUMBER and piece[ASKER] != piece[NUMBER]


def is_clash(one, other):
    """Tell of two pieces whether they clash."""
    if one == other:
        return False
    if one[RUN] == other[RUN] and one[NUMBER] == other[NUMBER]:
        return True
    return one[HOUSE] == other[HOUSE] and one[COUNT] == other[COUNT]


def held_till(piece):
    """Tell until when its asker can't end: a piece that is not waited for needs to be asked for, no more."""
    return piece[END] if piece[JOINED] else piece[BEGIN]
