"""A desk, which answers rows with texts."""

from latewood.errors import NoRow, NoText
from latewood.keeper import Keeper
from latewood.pieces import GREATEST_NUMBER
from latewood.texts import is_number, read_heap, read_piece


def say_tell(keeper, text):
    """Answer whether the piece that a text writes is new."""
    return "new" if keeper.tell(read_piece(text)) else "again"


def say_pour(keeper, text):
    """Answer how many pieces of the heap that a text writes are new."""
    fresh = Keeper()
    for piece in read_heap(text):
        fresh.tell(piece)
    return str(keeper.pour(fresh))


def say_back(keeper):
    """Go back, and answer that it is so."""
    keeper.back()
    return "ok"


def say_runs(keeper):
    """Answer the runs."""
    return parted([str(run) for run in keeper.runs_now()])


def say_holes(keeper):
    """Answer the holes."""
    return parted([f"{house}.{count}" for house, count in keeper.holes_now()])


def say_wood(keeper, run):
    """Answer the tops and the gaps of a run, or its ring."""
    wood = keeper.wood_now(run)
    if wood[0] == "ring":
        return ring_text(wood[1])
    tops = [str(number) for number in wood[1]]
    gaps = [str(number) for number in wood[2]]
    return parted(["tops"] + tops + ["gaps"] + gaps)


def say_shape(keeper, run):
    """Answer the shape of a run."""
    return keeper.shape_now(run)


def say_way(keeper, run):
    """Answer the shares of a run's way."""
    return parted([f"{number}:{begin}:{end}" for number, begin, end in keeper.way_now(run)])


def say_slack(keeper, run, number):
    """Answer the slack of a piece."""
    slack = keeper.slack_now(run, number)
    return "endless" if slack is None else str(slack)


def say_shifts(keeper):
    """Answer shifts of the houses, or a ring of them."""
    kind, rows = keeper.shifts_now()
    if kind == "ring":
        return ring_text(rows)
    return parted([f"{house}:{shift}" for house, shift in rows])


def say_span(keeper, one, other):
    """Answer the span of two houses."""
    return parted(["-" if end is None else str(end) for end in keeper.span_now(one, other)])


def say_told(keeper):
    """Answer how many tellings there were."""
    return str(keeper.tellings_now())


def parted(words):
    """Tell words as a text, parted by blanks, "none" of none."""
    return " ".join(words) if words else "none"


def ring_text(numbers):
    """Tell a ring as a text."""
    return parted(["ring"] + [str(number) for number in numbers])


# Who answers a row by its first word, with a text behind it or with so many numbers.
TEXT_ANSWERS = {"tell": say_tell, "pour": say_pour}
ANSWERS = {
    "back": say_back, "runs": say_runs, "holes": say_holes, "wood": say_wood, "shape": say_shape, "way": say_way,
    "slack": say_slack, "shifts": say_shifts, "span": say_span, "told": say_told,
}
NUMBERS = {
    "back": 0, "runs": 0, "holes": 0, "wood": 1, "shape": 1, "way": 1, "slack": 2, "shifts": 0, "span": 2, "told": 0,
}


class Desk:
    """A desk with a keeper of its own."""

    def __init__(self):
        self._keeper = Keeper()

    def say(self, row):
        """Answer a row with a text."""
        word, blank, text = row.partition(" ")
        if word in TEXT_ANSWERS and blank:
            return self._say_text(word, text)
        words = row.split(" ")
        if word not in ANSWERS or len(words) != NUMBERS[word] + 1:
            raise NoRow("a desk answers no such row")
        if not all([is_number(number, GREATEST_NUMBER) for number in words[1:]]):
            raise NoRow("a desk asks for numbers of at most two figures, with no 0 ahead")
        answer = ANSWERS[word]
        numbers = [int(number) for number in words[1:]]
        return answer(self._keeper, *numbers)

    def _say_text(self, word, text):
        """Answer a row of a word and a text."""
        answer = TEXT_ANSWERS[word]
        try:
            return answer(self._keeper, text)
        except NoText as error:
            # The row has one word ahead of the text.
            raise NoText(error.at + 1) from None
