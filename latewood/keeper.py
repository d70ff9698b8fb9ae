"""Keepers, which are told pieces, poured into others, copied, and go back."""

from latewood.anew import slack_of
from latewood.errors import Clash, NoBack, NoPiece, TooMany
from latewood.heaps import MOST_PIECES, holes_of, runs_of
from latewood.pieces import is_clash, is_piece
from latewood.shapes import shape_of
from latewood.shifts import shifts_of
from latewood.spans import span_of
from latewood.ways import way_of
from latewood.woods import wood_of


class Keeper:
    """A keeper of at most sixty unlike pieces, none of which clash."""

    def __init__(self):
        # The pieces rise, so that keepers are equal however these came.
        self._pieces = []
        # What each telling or pouring brought that brought something new and isn't undone.
        self._news = []
        self._tellings = 0

    def __len__(self):
        return len(self._pieces)

    def __eq__(self, other):
        return isinstance(other, Keeper) and self._pieces == other._pieces

    def tell(self, piece):
        """Take a piece, and tell whether it is new."""
        if not is_piece(piece):
            raise NoPiece("what a keeper is told is a piece")
        many = self._take([piece])
        self._tellings += 1
        return many == 1

    def pour(self, other):
        """Take another keeper's pieces, and tell how many of them are new."""
        return self._take(other.heap_now())

    def back(self, many=1):
        """Undo the last so many tellings and pourings that brought something new and aren't undone."""
        if many > len(self._news):
            raise NoBack("there are not so many tellings and pourings to undo")
        for _ in range(many):
            undone = self._news.pop()
            self._pieces = [piece for piece in self._pieces if piece not in undone]

    def copy(self):
        """Tell a keeper that has the same pieces, and nothing to go back behind."""
        keeper = Keeper()
        keeper._pieces = self.heap_now()
        return keeper

    def heap_now(self):
        """Tell the pieces, a rising list."""
        return list(self._pieces)

    def runs_now(self):
        """Tell the runs, a rising list."""
        return runs_of(self._pieces)

    def holes_now(self):
        """Tell the holes, a rising list of tuples (house, count)."""
        return holes_of(self._pieces)

    def wood_now(self, run):
        """Tell ("wood", tops, gaps, kids) of a run, or ("ring", numbers)."""
        return wood_of(self._pieces, run)

    def shifts_now(self):
        """Tell ("shifts", rows), by which all ties are kept, or ("ring", houses)."""
        return shifts_of(self._pieces)

    def span_now(self, one, other):
        """Tell (least, most) of the other house's shift less the one's, None where there is no end."""
        return span_of(self._pieces, one, other)

    def shape_now(self, run):
        """Tell the shape of a whole run."""
        return shape_of(self._pieces, run)

    def way_now(self, run):
        """Tell the way of a right run: a list of shares (number, from, to)."""
        return way_of(self._pieces, run)

    def slack_now(self, run, number):
        """Tell the slack of a piece of a right run, None where the run's end never hangs on it."""
        return slack_of(self._pieces, run, number)

    def tellings_now(self):
        """Tell how many pieces it was told, new or again, and not refused."""
        return self._tellings

    def _take(self, pieces):
        """Take what is new of pieces that don't clash, and tell how many are; or refuse them all."""
        new = [piece for piece in pieces if piece not in self._pieces]
        pair = least_between(new, self._pieces)
        if pair is not None:
            raise Clash(pair)
        if len(self._pieces) + len(new) > MOST_PIECES:
            raise TooMany("a keeper has at most sixty pieces")
        if new:
            self._pieces = sorted(self._pieces + new)
            self._news.append(new)
        return len(new)


def least_between(pieces, others):
    """Tell the least rising pair of one of the pieces and one of the others that clash, or None."""
    pairs = [tuple(sorted([piece, other])) for piece in pieces for other in others if is_clash(piece, other)]
    return min(pairs, default=None)
