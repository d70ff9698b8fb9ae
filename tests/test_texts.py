"""Point 22: pieces and heaps as texts, and read again."""

import random
import re
import unittest
from itertools import product

from latewood.errors import NoText
from latewood.pieces import is_piece
from latewood.texts import heap_text, piece_text, read_heap, read_piece

from helpers import asking, counted, make, random_heap, random_piece, sixty_pieces

LONG = 10 ** 30 - 1
TEXT = "3.1 0 2.14 -5 12 j"
PIECE = (3, 1, 0, 2, 14, -5, 12, True)
WORDS = TEXT.split(" ")

NUMBER = "(?:0|[1-9][0-9]?)"
TIME = "(?:0|-?[1-9][0-9]{0,29})"
FORM = re.compile(f"({NUMBER})[.]({NUMBER}) (-|{NUMBER}) [0-7][.](?:0|[1-9][0-9]{{0,2}}) ({TIME}) ({TIME}) ([ju])")

# Words by which any words that can begin a piece can go on.
ENDINGS = [
    list(words) for words in product(["0.0"], "-01", ["0.0"], ["0", "-" + "9" * 30], ["9" * 30], "ju")
]


def writes_piece(text):
    """Whether a text writes a piece, by what point 22 says, apart from the program."""
    found = FORM.fullmatch(text)
    if not found:
        return False
    _, number, asker, begin, end, joined = found.groups()
    return number != asker and int(begin) <= int(end) and not (asker == "-" and joined == "j")


def writes_heap(text):
    pieces = text.split(" / ")
    return text == "none" or len(pieces) <= 60 and all(writes_piece(piece) for piece in pieces)


def at_by_words(text, writes):
    """The field at of a text that writes none, by trying to go on behind each of its words."""
    words = text.split(" ")
    tails = [[]] + [words[at:] for words in ENDINGS for at in range(6)]
    tails += [["/"] + tail for tail in ENDINGS]
    for at in range(len(words)):
        if not any(writes(" ".join(words[:at + 1] + tail)) for tail in tails):
            return at
    return len(words)


class Written(unittest.TestCase):

    def told(self, piece, text):
        self.assertEqual(piece_text(piece), text)
        again = read_piece(text)
        self.assertEqual(again, piece)
        self.assertIs(type(again), tuple)
        self.assertIs(is_piece(again), True)
        self.assertEqual([type(part) for part in again], [int] * 7 + [bool])
        self.assertEqual(heap_text([piece]), text)
        self.assertEqual(read_heap(text), [piece])

    def test_pieces(self):
        self.told(PIECE, TEXT)
        self.told((3, 1, 0, 2, 14, -5, 12, False), "3.1 0 2.14 -5 12 u")
        self.told((0, 0, 1, 0, 0, 0, 0, True), "0.0 1 0.0 0 0 j")
        self.told((99, 99, 98, 7, 999, 10, 10, True), "99.99 98 7.999 10 10 j")
        self.told((10, 20, 30, 4, 100, 7, 8, False), "10.20 30 4.100 7 8 u")

    def test_tops(self):
        self.told((0, 0, -1, 0, 0, 0, 0, False), "0.0 - 0.0 0 0 u")
        self.told((99, 1, -1, 7, 999, -3, 4, False), "99.1 - 7.999 -3 4 u")

    def test_begins_and_ends(self):
        for begin, end in (
                (0, 0), (-1, 0), (-1, -1), (0, 1), (-10, -9), (-100, 100), (9, 10), (-LONG, LONG), (LONG, LONG),
                (-LONG, -LONG), (-LONG, 0), (0, LONG), (10 ** 29, 10 ** 29 + 1), (-10 ** 29, 7)):
            self.told(make(5, 6, 7, 1, 2, begin, end, True), f"5.6 7 1.2 {begin} {end} j")

    def test_longer_times_are_written_too(self):
        text = piece_text(make(5, 6, 7, 1, 2, -10 ** 35, 10 ** 40, True))
        self.assertEqual(text, "5.6 7 1.2 -1" + "0" * 35 + " 1" + "0" * 40 + " j")

    def test_any_pieces(self):
        chance = random.Random(220)
        for _ in range(500):
            piece = random_piece(chance, 100, 100, 8, 1000)
            self.assertTrue(writes_piece(piece_text(piece)))
            self.told(piece, piece_text(piece))

    def test_the_edges_of_each_word(self):
        for text in (
                "0.0 - 0.0 0 0 u", "9.9 8 7.9 9 9 j", "10.10 9 0.10 10 10 j", "99.99 0 7.999 -1 -1 u", "0.99 98 7.99 -9 -9 j",
                "99.0 99 0.100 0 " + "9" * 30 + " j", "1.2 12 1.1 -" + "9" * 30 + " " + "9" * 30 + " j"):
            self.assertEqual(piece_text(read_piece(text)), text)

    def test_by_names(self):
        self.assertEqual(piece_text(piece=PIECE), TEXT)
        self.assertEqual(heap_text(heap=[PIECE]), TEXT)
        self.assertEqual(read_piece(text=TEXT), PIECE)
        self.assertEqual(read_heap(text=TEXT), [PIECE])


class Heaps(unittest.TestCase):

    def told(self, heap, text):
        before = list(heap)
        self.assertEqual(heap_text(heap), text)
        self.assertEqual(heap, before)
        again = read_heap(text)
        self.assertIs(type(again), list)
        self.assertEqual(again, before)

    def test_of_none(self):
        self.told([], "none")

    def test_of_some_in_their_order(self):
        top = make(3, 0, -1, 1, 0, 0, 50)
        self.told([PIECE, top], TEXT + " / 3.0 - 1.0 0 50 u")
        self.told([top, PIECE], "3.0 - 1.0 0 50 u / " + TEXT)
        self.told([top, PIECE, top], "3.0 - 1.0 0 50 u / " + TEXT + " / 3.0 - 1.0 0 50 u")

    def test_like_ones(self):
        self.told([PIECE] * 3, " / ".join([TEXT] * 3))
        self.told([PIECE] * 60, " / ".join([TEXT] * 60))

    def test_ones_that_clash(self):
        heap = [PIECE, PIECE[:6] + (13, True), PIECE[:1] + (2,) + PIECE[2:], make(9, 9, 8, 2, 14)]
        self.told(heap, "3.1 0 2.14 -5 12 j / 3.1 0 2.14 -5 13 j / 3.2 0 2.14 -5 12 j / 9.9 8 2.14 0 0 u")

    def test_rings_and_gaps(self):
        self.told(asking({4: 5, 5: 4, 7: 9}), "0.4 5 0.4 0 0 u / 0.5 4 0.5 0 0 u / 0.7 9 0.7 0 0 u")

    def test_of_sixty(self):
        heap = sixty_pieces()
        text = " / ".join(piece_text(piece) for piece in heap)
        self.told(heap, text)
        self.told(heap[::-1], " / ".join(piece_text(piece) for piece in heap[::-1]))

    def test_any_heaps(self):
        chance = random.Random(221)
        for _ in range(200):
            heap = random_heap(chance, 40)
            self.told(heap, " / ".join(piece_text(piece) for piece in heap) or "none")

    def test_what_is_told_is_new(self):
        for text in ("none", TEXT, TEXT + " / " + TEXT):
            first, second = read_heap(text), read_heap(text)
            self.assertIsNot(first, second)
            first.append("mine")
            self.assertEqual(second, read_heap(text))
            self.assertEqual(heap_text(second), text)


class NoPieceText(unittest.TestCase):

    def refused(self, text, at):
        """Neither a piece nor a heap is read of the text; both are refused at that word."""
        for function in (read_piece, read_heap):
            with self.assertRaises(NoText, msg=text[:99]) as held:
                function(text)
            self.assertIs(type(held.exception), NoText)
            self.assertEqual(held.exception.at, at, text[:99])
            self.assertIs(type(held.exception.at), int)

    def word(self, at, *words):
        """These words can't stand at that place, whatever stands behind."""
        for word in words:
            for behind in (WORDS[at + 1:], [], ["x"], [""], WORDS[at + 1:] + ["7"], WORDS * 9):
                self.refused(" ".join(WORDS[:at] + [word] + behind), at)

    def test_the_words_as_they_should_be(self):
        self.assertEqual(read_piece(TEXT), PIECE)

    def test_run_and_number(self):
        self.word(
            0, "", "3", "3.", ".1", ".", "3.1.", "3.1.2", "3,1", "3..1", "100.1", "3.100", "999.1", "03.1", "3.01", "00.1",
            "3.00", "-3.1", "3.-1", "+3.1", "3.+1", "-0.1", "3.-0", "a.1", "3.b", "3.1a", "\t3.1", "3.1\t", "3\t.1", "3.1\n",
            "\n", "\t", "3.1\r", "3_0.1", "0x3.1", "-", "/", "j", "3.1/", "3.1\n0", "3:1", "1e1.1", "None", "True.1",
            "9" * 5000 + ".1", "3." + "9" * 15000,
        )

    def test_asker(self):
        self.word(
            1, "", "1", "01", "00", "-1", "-0", "+0", "+", "--", "100", "999", "0.0", "a", "0a", "\t", "0\t", "\n0", "0\n",
            "-\n", "/", "j", "2_0", "none", "9" * 15000, "-2",
        )

    def test_an_asker_that_is_the_own_number(self):
        for number in (0, 1, 9, 10, 55, 99):
            self.refused(f"3.{number} {number} 2.14 -5 12 j", 1)
            self.refused(f"{number}.{number} {number} 2.14 -5 12 u", 1)
            self.assertEqual(read_piece(f"{number}.{(number + 1) % 100} {number} 2.14 -5 12 j")[2], number)

    def test_house_and_count(self):
        self.word(
            2, "", "2", "2.", ".14", ".", "8.14", "9.1", "10.1", "2.1000", "2.9999", "02.14", "2.014", "2.00", "-2.14", "2.-14",
            "2.+1", "2.14.", "2..14", "2.1.4", "a.1", "2.a", "2,14", "2.14\t", "\n2.14", "/", "-", "00.1", "77.1",
            "2." + "9" * 15000, "9" * 15000 + ".1",
        )

    def test_begin(self):
        self.word(
            3, "", "-", "--5", "-0", "+5", "05", "00", "-05", "5.", "5.0", ".5", "a", "5a", "-a", "\t5", "5\t", "5\n", "- ",
            "1" + "0" * 30, "-1" + "0" * 30, "0" * 30, "1_0", "1e3", "/", "j", "9" * 15000, "-" + "9" * 15000, "5-", "0-1",
        )

    def test_end(self):
        self.word(
            4, "", "-", "-0", "+12", "012", "00", "-04", "12.", "1.2", "a", "12a", "12\t", "\n", "j", "u", "1" + "0" * 30,
            "-1" + "0" * 30, "9" * 15000, "-" + "9" * 15000, "/", "--4",
        )

    def test_an_end_before_its_begin(self):
        self.word(4, "-6", "-7", "-10", "-" + "9" * 30)
        for begin, end in ((0, -1), (1, 0), (10, 9), (9, -10), (LONG, LONG - 1), (-LONG + 1, -LONG), (100, 20)):
            self.refused(f"3.1 0 2.14 {begin} {end} j", 4)
            self.assertEqual(read_piece(f"3.1 0 2.14 {end} {begin} j")[5:7], (end, begin))

    def test_the_last_word(self):
        self.word(5, "", "J", "U", "ju", "jj", "0", "1", "-", "\t", "j\t", "\nj", "j\n", "True", "a", "/", "j/", "uu")

    def test_a_tops_j(self):
        self.refused("3.1 - 2.14 -5 12 j", 5)
        self.refused("3.1 - 2.14 -5 12 j /", 5)
        self.assertEqual(read_piece("3.1 - 2.14 -5 12 u"), (3, 1, -1, 2, 14, -5, 12, False))

    def test_the_first_of_several(self):
        self.refused("3.1 1 8.14 x -5 q", 1)
        self.refused("3.1 0 8.14 x -5 q", 2)
        self.refused("3.1 0 2.14 x -5 q", 3)
        self.refused("3.1 0 2.14 -5 -6 q", 4)
        self.refused("x 1 8.14 x -5 q", 0)

    def test_words_that_lack(self):
        for many in range(1, 6):
            self.refused(" ".join(WORDS[:many]), many)
        for many in range(1, 6):
            self.refused(" ".join("3.1 - 2.14 -5 12 j".split(" ")[:many]), many)

    def test_empty_words(self):
        self.refused("", 0)
        self.refused(" ", 0)
        self.refused("  ", 0)
        self.refused(" " * 20000, 0)
        self.refused(" " + TEXT, 0)
        for at in range(1, 6):
            self.refused(" ".join(WORDS[:at]) + " ", at)
            self.refused(" ".join(WORDS[:at]) + "  " + " ".join(WORDS[at:]), at)
        self.refused(TEXT + " ", 6)
        self.refused(TEXT + "  ", 6)

    def test_a_word_too_many(self):
        for word in ("x", "j", "3.1", "0", "none", "\t", "-", "//", "/ "[:1] + "/", "\n"):
            self.refused(TEXT + " " + word, 6)
            self.refused(TEXT + " " + word + " " + TEXT, 6)

    def test_figures_are_those_from_0_to_9(self):
        for sign in "\u00b2\u0663\uff13":
            self.refused(f"{sign}.1 0 2.14 -5 12 j", 0)
            self.refused(f"3.1 0 2.14 -{sign} 12 j", 3)

    def test_as_the_words_tell(self):
        chance = random.Random(222)
        parts = [
            ["3.1", "0.0", "99.99", "3", "100.1", "3.01", "", "none"], ["0", "-", "1", "99", "00", "-1", "100"],
            ["2.14", "0.0", "7.999", "8.1", "2.1000", "2", "", "x"], ["-5", "0", "12", "-0", "9" * 30, "9" * 31, "", "05"],
            ["12", "0", "-5", "-6", "-" + "9" * 30, "9" * 31, "-0", "1.2"], ["j", "u", "j", "u", "J", "", "/"],
        ]
        ats = set()
        for _ in range(1500):
            words = [chance.choice(some[:3] if chance.random() < 0.7 else some) for some in parts]
            words = words[:chance.randrange(1, 7)] if chance.random() < 0.2 else words
            words += [chance.choice(["x", "", "/"])] if chance.random() < 0.1 else []
            text = " ".join(words)
            if writes_piece(text):
                self.assertEqual(piece_text(read_piece(text)), text)
                continue
            with self.assertRaises(NoText) as held:
                read_piece(text)
            self.assertEqual(held.exception.at, at_by_words(text, writes_piece), text)
            ats.add(held.exception.at)
        self.assertEqual(ats, set(range(7)))


class NoHeapText(unittest.TestCase):

    def refused(self, text, at):
        with self.assertRaises(NoText, msg=text[:99]) as held:
            read_heap(text)
        self.assertIs(type(held.exception), NoText)
        self.assertEqual(held.exception.at, at, text[:99])

    def test_none_is_no_piece(self):
        for text in ("none", "none ", "none none", "none " + TEXT):
            with self.assertRaises(NoText) as held:
                read_piece(text)
            self.assertEqual(held.exception.at, 0)

    def test_heaps_are_no_piece(self):
        for text in (TEXT + " / " + TEXT, TEXT + " /", TEXT + " / "):
            with self.assertRaises(NoText) as held:
                read_piece(text)
            self.assertEqual(held.exception.at, 6)

    def test_none_with_more_behind(self):
        for behind in (" ", " none", " /", " / none", " " + TEXT, " / " + TEXT, "  ", " \t"):
            self.refused("none" + behind, 1)

    def test_what_is_like_none(self):
        for text in ("None", "none\n", "\tnone", "nonenone", "non", "no", "NONE", "none/", "/", "/ none"):
            self.refused(text, 0)
        self.refused(" none", 0)
        self.refused(TEXT + " / none", 7)

    def test_a_sign_between_pieces_and_none_behind(self):
        self.refused(TEXT + " /", 7)
        self.refused(TEXT + " / ", 7)
        self.refused(TEXT + " /  ", 7)
        self.refused(TEXT + " / " + TEXT + " /", 14)
        self.refused(TEXT + " / " + TEXT + " / ", 14)
        self.refused("/ " + TEXT, 0)
        self.refused(" / " + TEXT, 0)

    def test_other_signs_between_pieces(self):
        for between in ("  /  ", " // ", " ", " , ", " \t ", " /  ", "  / ", " | ", " / / "):
            at = 7 if between in (" /  ", " / / ") else 6
            self.refused(TEXT + between + TEXT, at)
        self.refused(TEXT + "/" + TEXT, 5)
        self.refused(TEXT + " /" + TEXT, 6)
        self.refused(TEXT + "/ " + TEXT, 5)
        self.refused(TEXT + "\n" + TEXT, 5)

    def test_words_of_later_pieces(self):
        for many in (1, 2, 30, 59):
            ahead = (TEXT + " / ") * many
            for at in range(6):
                for word in ("", "x", "/", "\t", "none", "-0"):
                    self.refused(ahead + " ".join(WORDS[:at] + [word] + WORDS[at + 1:]), 7 * many + at)
                    self.refused(ahead + " ".join(WORDS[:at] + [word]), 7 * many + at)
                if at:
                    self.refused(ahead + " ".join(WORDS[:at]), 7 * many + at)
            self.refused(ahead + "3.1 1 2.14 -5 12 j", 7 * many + 1)
            self.refused(ahead + "3.1 0 2.14 -5 -6 j", 7 * many + 4)
            self.refused(ahead + "3.1 - 2.14 -5 12 j", 7 * many + 5)
            self.refused(ahead + TEXT + " x", 7 * many + 6)
            self.refused(ahead + TEXT + " ", 7 * many + 6)

    def test_a_sixty_first_piece(self):
        sixty = " / ".join(piece_text(piece) for piece in sixty_pieces())
        for text in (sixty, " / ".join([TEXT] * 60)):
            self.assertEqual(len(read_heap(text)), 60)
            for behind in (" / " + TEXT, " /", " / ", " / x", " x", " ", " / 3.1"):
                self.refused(text + behind, 419)
        self.refused(" / ".join([TEXT] * 59) + " /", 413)
        self.refused(" / ".join([TEXT] * 200), 419)

    def test_the_first_of_several(self):
        self.refused(TEXT + " / 3.1 0 x -5 12 j / x", 9)
        self.refused("3.1 0 x -5 12 j / 3.1 0 x -5 12 j", 2)
        self.refused("3.1 0 2.14 -5 / 3.1 0 2.14 -5 12 j", 4)

    def test_as_the_words_tell(self):
        chance = random.Random(223)
        found = {"read": 0, "refused": 0}
        for _ in range(250):
            heap = counted(random_heap(chance, 3))
            text = heap_text(heap)
            if chance.random() < 0.8:
                at = chance.randrange(len(text) + 1)
                drop = chance.randrange(2)
                text = text[:at] + chance.choice(["", " ", "/", "-", "0", "1", ".", "j", "\t", " / "]) + text[at + drop:]
            if writes_heap(text):
                self.assertEqual(heap_text(read_heap(text)), text)
                found["read"] += 1
                continue
            self.refused(text, at_by_words(text, writes_heap))
            found["refused"] += 1
        self.assertGreater(min(found.values()), 40)


if __name__ == "__main__":
    unittest.main()
