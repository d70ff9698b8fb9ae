"""Pieces and heaps as texts, and read again."""

from latewood.errors import NoText
from latewood.heaps import MOST_PIECES
from latewood.pieces import GREATEST_COUNT, GREATEST_HOUSE, GREATEST_NUMBER, GREATEST_RUN, NO_ASKER

# How many words write a piece, and how many figures a begin or an end may have.
WORDS = 6
MOST_FIGURES = 30

# The words that are no numbers.
TOP = "-"
JOINED_WORD = "j"
FREE_WORD = "u"
BETWEEN = "/"
EMPTY = "none"


def piece_text(piece):
    """Tell a piece as a text of six words."""
    run, number, asker, house, count, begin, end, joined = piece
    asker_word = TOP if asker == NO_ASKER else str(asker)
    joined_word = JOINED_WORD if joined else FREE_WORD
    return f"{run}.{number} {asker_word} {house}.{count} {begin} {end} {joined_word}"


def heap_text(heap):
    """Tell a heap as a text: its pieces in the order in which they are handed in."""
    if not heap:
        return EMPTY
    return f" {BETWEEN} ".join([piece_text(piece) for piece in heap])


def read_piece(text):
    """Tell the piece that a text writes, or refuse it with NoText."""
    words = text.split(" ")
    at = wrong_at(words)
    if at is not None:
        raise NoText(at)
    return piece_from(words)


def read_heap(text):
    """Tell the heap that a text writes, a list, or refuse it with NoText."""
    words = text.split(" ")
    if words[0] == EMPTY:
        if len(words) > 1:
            raise NoText(1)
        return []
    pieces = []
    # One start stands behind the last word where this is one between two pieces: all words of a piece lack there.
    for start in range(0, len(words) + 1, WORDS + 1):
        end = start + WORDS
        at = wrong_at(words[start:end])
        if at is not None:
            raise NoText(start + at)
        pieces.append(piece_from(words[start:end]))
        if end < len(words) and (words[end] != BETWEEN or len(pieces) == MOST_PIECES):
            raise NoText(end)
    return pieces


def run_stands(words):
    """Tell whether the first word is a run and a number."""
    return is_dotted(words[0], GREATEST_RUN, GREATEST_NUMBER)


def asker_stands(words):
    """Tell whether the next word is an asker, and not the own number."""
    if words[1] == TOP:
        return True
    return is_number(words[1], GREATEST_NUMBER) and words[1] != words[0].split(".")[1]


def house_stands(words):
    """Tell whether the next word is a house and a count."""
    return is_dotted(words[2], GREATEST_HOUSE, GREATEST_COUNT)


def begin_stands(words):
    """Tell whether the next word is a begin."""
    return is_time(words[3])


def end_stands(words):
    """Tell whether the next word is an end, and not before the begin."""
    return is_time(words[4]) and int(words[3]) <= int(words[4])


def joined_stands(words):
    """Tell whether the last word tells whether the piece is joined, which a top is not."""
    return words[5] == FREE_WORD or (words[5] == JOINED_WORD and words[1] != TOP)


# What tells of each word of a piece whether it can stand behind the words ahead of it.
CHECKS = (run_stands, asker_stands, house_stands, begin_stands, end_stands, joined_stands)


def wrong_at(words):
    """Tell the number of the first word that can't stand in a piece, or that lacks, or None."""
    for at in range(len(words)):
        if at == WORDS:
            return at
        check = CHECKS[at]
        if not check(words):
            return at
    return len(words) if len(words) < WORDS else None


def piece_from(words):
    """Tell the piece that six words write."""
    run, number = words[0].split(".")
    asker = NO_ASKER if words[1] == TOP else int(words[1])
    house, count = words[2].split(".")
    times = (int(words[3]), int(words[4]))
    return (int(run), int(number), asker, int(house), int(count)) + times + (words[5] == JOINED_WORD,)


def is_dotted(word, greatest, next_greatest):
    """Tell whether a word is two numbers, not greater than these, with a dot between them."""
    parts = word.split(".")
    return len(parts) == 2 and is_number(parts[0], greatest) and is_number(parts[1], next_greatest)


def is_number(word, greatest):
    """Tell whether a word is a number from 0 to the greatest, by figures with no 0 ahead."""
    # Python does not read numbers of thousands of figures, so the figures are counted first.
    return are_figures(word) and len(word) <= len(str(greatest)) and int(word) <= greatest


def is_time(word):
    """Tell whether a word is a begin or an end."""
    figures = word[1:] if word.startswith("-") else word
    return are_figures(figures) and len(figures) <= MOST_FIGURES and word != "-0"


def are_figures(word):
    """Tell whether a word is figures alone, with no 0 ahead."""
    return word.isascii() and word.isdigit() and (word == "0" or not word.startswith("0"))
