"""Point 23: the rows that a desk answers, and how; and what it refuses."""

import random
import unittest

from latewood.desk import Desk
from latewood.errors import (
    Clash, NoBack, NoHouse, NoPiece, NoRow, NoRun, NoShifts, NoText, NotRight, NotWhole, TooMany, WoodError,
)
from latewood.keeper import Keeper
from latewood.shifts import are_shifts, is_ring
from latewood.texts import heap_text, piece_text, read_heap, read_piece

from helpers import asking, clocked_heap, clash_by_words, counted, make, right_run, sixty_pieces

TOP = "3.0 - 2.0 -5 12 u"
KID = "3.1 0 1.2 0 9 j"
FREE = "3.2 0 5.0 3 40 u"
OTHER = "8.0 - 6.0 1 2 u"
GAPPY = "8.4 9 6.2 5 6 j"

# All that a desk tells where it holds what it was told so far.
QUESTIONS = (
    "told", "runs", "holes", "wood 3", "wood 8", "shape 3", "shape 8", "way 3", "way 8", "slack 3 0", "slack 3 1", "slack 3 2",
    "slack 8 4", "shifts", "span 2 1", "span 1 6", "span 2 2", "wood 0",
)


def desk_of(*texts):
    """A desk that was told these pieces, by their texts."""
    desk = Desk()
    for text in texts:
        desk.say("tell " + text)
    return desk


def full():
    return desk_of(TOP, KID, FREE, OTHER, GAPPY)


def refusal(error):
    """A refusal by its class and its field."""
    return (type(error), getattr(error, "pair", None), getattr(error, "at", None))


def heard(desk, rows=QUESTIONS):
    """What a desk answers to these rows, or how it refuses them."""
    answers = []
    for row in rows:
        try:
            answers.append(desk.say(row))
        except WoodError as error:
            answers.append(refusal(error))
    return answers


class Cases(unittest.TestCase):

    def says(self, desk, row, text):
        told = desk.say(row)
        self.assertEqual(told, text, row[:99])
        self.assertIs(type(told), str)

    def refused(self, cls, desk, row):
        with self.assertRaises(cls, msg=row[:99]) as held:
            desk.say(row)
        self.assertIs(type(held.exception), cls, row[:99])
        return held.exception

    def unchanged(self, cls, desk, row):
        """It is refused, and what the desk answers to all questions is as it was."""
        before = heard(desk)
        told = self.refused(cls, desk, row)
        self.assertEqual(heard(desk), before, row[:99])
        return told


class Told(Cases):

    def test_new_and_again(self):
        desk = Desk()
        self.says(desk, "tell " + TOP, "new")
        self.says(desk, "tell " + KID, "new")
        self.says(desk, "tell " + TOP, "again")
        self.says(desk, "tell " + KID, "again")
        self.says(desk, "told", "4")
        self.says(desk, "runs", "3")

    def test_poured(self):
        desk = desk_of(TOP)
        self.says(desk, "pour none", "0")
        self.says(desk, "pour " + TOP, "0")
        self.says(desk, f"pour {TOP} / {KID} / {OTHER}", "2")
        self.says(desk, f"pour {KID} / {FREE} / {KID} / {FREE}", "1")
        self.says(desk, "pour " + " / ".join([GAPPY] * 60), "1")
        self.says(desk, "runs", "3 8")
        self.says(desk, "told", "1")

    def test_sixty_poured(self):
        desk = Desk()
        text = heap_text(sixty_pieces())
        self.says(desk, "pour " + text, "60")
        self.says(desk, "pour " + text, "0")
        self.says(desk, "runs", "0 1 2 3 4 5")
        self.says(desk, "back", "ok")
        self.says(desk, "runs", "none")

    def test_back(self):
        desk = desk_of(TOP, KID, KID)
        desk.say(f"pour {FREE} / {OTHER}")
        self.says(desk, "runs", "3 8")
        self.says(desk, "back", "ok")
        self.says(desk, "runs", "3")
        self.says(desk, "wood 3", "tops 0 gaps")
        self.says(desk, "shape 3", "2u(1j)")
        self.says(desk, "back", "ok")
        self.says(desk, "shape 3", "2u")
        self.says(desk, "back", "ok")
        self.says(desk, "runs", "none")
        self.unchanged(NoBack, desk, "back")
        self.says(desk, "told", "3")
        self.says(desk, "tell " + KID, "new")
        self.says(desk, "told", "4")

    def test_told(self):
        desk = Desk()
        self.says(desk, "told", "0")
        for row in ("pour " + TOP, "pour none", "runs", "back"):
            desk.say(row)
            self.says(desk, "told", "0")
        for row in ("tell", "tell ", "tell x", "tell " + TOP + " x", "pour", "back", "nonsense"):
            self.assertRaises(WoodError, desk.say, row)
            self.says(desk, "told", "0")
        for many in range(1, 12):
            desk.say("tell " + TOP)
            self.says(desk, "told", str(many))

    def test_two_desks_by_turns(self):
        first, second = Desk(), Desk()
        self.says(first, "tell " + TOP, "new")
        self.says(second, "runs", "none")
        self.says(second, "told", "0")
        self.says(second, "tell " + TOP, "new")
        self.says(second, "tell " + OTHER, "new")
        self.says(first, "tell " + KID, "new")
        self.says(first, "runs", "3")
        self.says(second, "runs", "3 8")
        self.says(second, "back", "ok")
        self.says(second, "back", "ok")
        self.refused(NoBack, second, "back")
        self.says(first, "shape 3", "2u(1j)")
        self.says(first, "told", "2")
        self.says(second, "told", "2")


class Answers(Cases):

    def test_of_nothing_told(self):
        desk = Desk()
        for row, text in (("runs", "none"), ("holes", "none"), ("shifts", "none"), ("told", "0"), ("pour none", "0")):
            self.says(desk, row, text)

    def test_runs(self):
        self.says(full(), "runs", "3 8")
        self.says(desk_of("10.0 - 0.0 0 0 u", "9.0 - 0.1 0 0 u", "0.0 - 0.2 0 0 u", "99.0 - 0.3 0 0 u"), "runs", "0 9 10 99")

    def test_holes(self):
        self.says(full(), "holes", "1.0 1.1 6.1")
        self.says(desk_of("3.1 0 7.11 0 9 j"), "holes", " ".join(f"7.{count}" for count in range(11)))
        self.says(desk_of(TOP), "holes", "none")

    def test_wood(self):
        desk = full()
        self.says(desk, "wood 3", "tops 0 gaps")
        self.says(desk, "wood 8", "tops 0 gaps 9")
        desk = desk_of("5.1 30 0.0 0 0 j", "5.2 7 0.1 0 0 j", "5.3 10 0.2 0 0 j", "6.8 - 0.3 0 0 u", "6.11 - 0.4 0 0 u")
        self.says(desk, "wood 5", "tops gaps 7 10 30")
        self.says(desk, "wood 6", "tops 8 11 gaps")

    def test_wood_with_a_ring(self):
        desk = desk_of("99.4 5 0.0 0 0 j", "99.5 12 0.1 0 0 j", "99.12 4 0.2 0 0 j", "99.0 - 0.3 0 0 u")
        self.says(desk, "wood 99", "ring 4 5 12")

    def test_shape(self):
        self.says(full(), "shape 3", "2u(1j,5u)")
        self.says(desk_of("0.7 - 4.0 0 0 u"), "shape 0", "4u")

    def test_way(self):
        self.says(full(), "way 3", "0:-5:0 1:0:9 0:9:12")
        self.says(desk_of("0.7 - 4.0 5 5 u"), "way 0", "none")
        far = "9" * 30
        self.says(desk_of(f"0.7 - 4.0 -{far} {far} u"), "way 0", f"7:-{far}:{far}")

    def test_slack(self):
        desk = full()
        self.says(desk, "slack 3 0", "0")
        self.says(desk, "slack 3 1", "0")
        self.says(desk, "slack 3 2", "endless")
        desk = desk_of("12.50 - 0.0 0 20 u", "12.10 50 0.1 2 10 j", "12.11 50 0.2 5 16 j")
        self.says(desk, "slack 12 10", "6")
        self.says(desk, "slack 12 11", "0")

    def test_shifts(self):
        self.says(desk_of(TOP), "shifts", "2:" + desk_of(TOP).say("shifts")[2:])
        desk = full()
        text = desk.say("shifts")
        rows = [tuple(int(part) for part in word.split(":")) for word in text.split(" ")]
        heap = [read_piece(one) for one in (TOP, KID, FREE, OTHER, GAPPY)]
        self.assertTrue(are_shifts(heap, rows))
        self.assertEqual(" ".join(f"{house}:{shift}" for house, shift in rows), text)

    def test_shifts_that_are_told_by_few(self):
        # House 1's clock must go just ten ahead of house 0's.
        desk = desk_of("0.0 - 0.0 10 30 u", "0.1 0 1.0 0 20 j")
        words = desk.say("shifts").split(" ")
        shifts = {word[0]: int(word[2:]) for word in words}
        self.assertEqual([word[:2] for word in words], ["0:", "1:"])
        self.assertEqual(shifts["1"] - shifts["0"], 10)

    def test_shifts_with_a_ring(self):
        desk = desk_of("0.0 - 4.0 0 9 u", "0.1 0 6.0 0 10 j")
        words = desk.say("shifts").split(" ")
        self.assertEqual(words[0], "ring")
        self.assertTrue(is_ring(
            [read_piece("0.0 - 4.0 0 9 u"), read_piece("0.1 0 6.0 0 10 j")], tuple(int(word) for word in words[1:])))
        self.says(desk_of("0.0 - 4.0 0 9 u", "0.1 0 4.1 0 10 j"), "shifts", "ring 4")

    def test_span(self):
        desk = full()
        self.says(desk, "span 2 1", "-5 3")
        self.says(desk, "span 1 2", "-3 5")
        self.says(desk, "span 1 6", "- -")
        self.says(desk_of("0.0 - 0.0 10 30 u", "0.1 0 7.0 0 20 j"), "span 0 7", "10 10")

    def test_as_a_keeper_tells(self):
        chance = random.Random(240)
        for _ in range(15):
            heap = clocked_heap(chance, 3, 5, 4, 0.05) + asking({4: 5, 5: 4}, 7)
            heap = counted(heap + right_run(chance, 9, 4))
            desk, keeper = Desk(), Keeper()
            for one in heap:
                self.says(desk, "tell " + piece_text(one), "new")
                keeper.tell(one)
            self.says(desk, "runs", " ".join(str(run) for run in keeper.runs_now()))
            self.says(desk, "holes", " ".join(f"{house}.{count}" for house, count in keeper.holes_now()) or "none")
            for run in (0, 1, 2, 9):
                wood = keeper.wood_now(run)
                self.says(desk, f"wood {run}", " ".join(["tops"] + [f"{k}" for k in wood[1]] + ["gaps"]))
                self.says(desk, f"shape {run}", keeper.shape_now(run))
            self.says(desk, "wood 7", "ring 4 5")
            way = " ".join(":".join(str(part) for part in share) for share in keeper.way_now(9))
            self.says(desk, "way 9", way or "none")
            for one in heap:
                if one[0] == 9:
                    slack = keeper.slack_now(9, one[1])
                    self.says(desk, f"slack 9 {one[1]}", "endless" if slack is None else str(slack))
            for one in (0, 1, 2, 3):
                for other in (0, 1, 2, 3):
                    try:
                        span = keeper.span_now(one, other)
                    except WoodError as error:
                        self.refused(type(error), desk, f"span {one} {other}")
                        continue
                    ends = " ".join("-" if end is None else str(end) for end in span)
                    self.says(desk, f"span {one} {other}", ends)


class Refusals(Cases):

    def test_odd_words(self):
        desk = full()
        for row in (
                "", " ", "  ", "x", "tel", "Tell", "TELL", "told.", "telltale", "none", "new", "again", "ok", "run", "Runs",
                "wood3", "wood:3", "len", "copy", "heap", "tops", "gap 3", "\t", "\n", "tell\t" + TOP, "tell\n", " tell " + TOP,
                " runs", "pour\t", "x" * 20000, "_say_text", "say", "__init__", "tellings", "0", "3", "back\n", "runs\t",
                "runs\n", "told\n", "shifts\t", "-", TOP, "/", "tell/"):
            self.unchanged(NoRow, desk, row)

    def test_text_words_alone(self):
        desk = full()
        self.unchanged(NoRow, desk, "tell")
        self.unchanged(NoRow, desk, "pour")

    def test_too_many_words(self):
        desk = full()
        for row in ("runs", "holes", "shifts", "told", "wood 3", "shape 3", "way 3", "slack 3 0", "span 1 2", "back"):
            for behind in (" ", "  ", " 1", " 3", " 0 0", " x", " runs", "\t", "\n", " none"):
                self.unchanged(NoRow, desk, row + behind)
            self.assertIs(type(desk.say(row)), str)

    def test_too_few_words(self):
        desk = full()
        for row in ("wood", "shape", "way", "slack", "slack 3", "span", "span 1"):
            self.unchanged(NoRow, desk, row)
            self.unchanged(NoRow, desk, row + " ")

    def test_empty_words_between(self):
        desk = full()
        for row in ("wood  3", "shape  3", "way  3", "slack  3 0", "slack 3  0", "span  1 2", "span 1  2", "wood 3 ", " wood 3"):
            self.unchanged(NoRow, desk, row)

    def test_numbers_that_are_none(self):
        desk = full()
        for word in (
                "100", "999", "003", "03", "00", "01", "-1", "-0", "+3", "3.", "3.0", "a", "3a", "", "\t3", "3\n", "3\t", "0x3",
                "1_0", "-", "j", "none", "1e1", "True", "9" * 15000, "0" * 3000, "000", "3,", "3/"):
            for row in (f"wood {word}", f"shape {word}", f"way {word}", f"slack {word} 0", f"slack 3 {word}"):
                self.unchanged(NoRow, desk, row)
            for row in (f"span {word} 1", f"span 1 {word}"):
                self.unchanged(NoRow, desk, row)

    def test_numbers_of_two_figures(self):
        desk = desk_of("10.99 - 0.0 0 9 u")
        self.says(desk, "wood 10", "tops 99 gaps")
        self.says(desk, "slack 10 99", "0")
        self.refused(NoRun, desk, "wood 99")
        self.refused(NoRun, desk, "wood 0")
        self.refused(NoHouse, desk, "span 10 99")
        self.refused(NoHouse, desk, "span 0 8")

    def test_no_text_of_tell(self):
        desk = full()
        for text, at in (
                ("", 0), (" ", 0), (" " + TOP, 0), ("none", 0), ("x", 0), ("3.1", 1), ("3.1 1", 1), ("3.1 0 8.0", 2),
                ("3.1 0 1.2 -0", 3), ("3.1 0 1.2 0 -1", 4), ("3.1 - 1.2 0 9 j", 5), ("3.1 0 1.2 0 9", 5), (KID + " ", 6),
                (KID + " x", 6), (f"{KID} / {TOP}", 6), (KID + "\n", 5), ("\t" + KID, 0), ("tell " + KID, 0), ("3.1  0", 1),
                ("3.1 0 1.2 0 " + "9" * 31, 4), ("100.1 0", 0)):
            self.assertEqual(self.unchanged(NoText, desk, "tell " + text).at, at + 1, text)

    def test_no_text_of_pour(self):
        desk = full()
        sixty = " / ".join([KID] * 60)
        for text, at in (
                ("", 0), (" ", 0), ("none ", 1), ("none none", 1), (" none", 0), ("None", 0), ("x", 0), ("3.1", 1),
                ("3.1 1", 1), (KID + " ", 6), (KID + " /", 7), (KID + " / ", 7), (f"{KID} / 3.0 0 2.0", 8), (KID + " x", 6),
                (f"{KID} {TOP}", 6), (f"{KID} / none", 7), (f"{KID} / 3.0 - 2.0 -5 12 j", 12), (sixty + " / " + KID, 419),
                (sixty + " ", 419), ("/", 0)):
            self.assertEqual(self.unchanged(NoText, desk, "pour " + text).at, at + 1, text[:99])

    def test_no_text_ahead_of_a_clash(self):
        desk = full()
        self.assertEqual(self.unchanged(NoText, desk, "tell 3.1 0 1.2 0 10 x").at, 6)
        self.assertEqual(self.unchanged(NoText, desk, "pour 3.1 0 1.2 0 10 j / x").at, 8)

    def test_clash_of_tell(self):
        desk = full()
        kid, late = read_piece(KID), read_piece("3.1 0 1.2 0 10 j")
        self.assertEqual(self.unchanged(Clash, desk, "tell 3.1 0 1.2 0 10 j").pair, (kid, late))
        soon = read_piece("1.1 0 1.2 0 10 j")
        self.assertEqual(self.unchanged(Clash, desk, "tell 1.1 0 1.2 0 10 j").pair, (soon, kid))

    def test_clash_of_pour(self):
        desk = full()
        kid, late = read_piece(KID), read_piece("3.1 0 1.2 0 10 j")
        told = self.unchanged(Clash, desk, "pour 50.0 - 0.0 1 2 u / 3.1 0 1.2 0 10 j")
        self.assertEqual(told.pair, (kid, late))
        # Within the heap itself, as a fresh keeper is told it in its order.
        for text, pair in (
                ("60.1 - 0.0 1 2 u / 60.1 - 0.1 1 2 u", ("60.1 - 0.0 1 2 u", "60.1 - 0.1 1 2 u")),
                ("60.1 - 0.1 1 2 u / 60.1 - 0.0 1 2 u", ("60.1 - 0.0 1 2 u", "60.1 - 0.1 1 2 u")),
                ("3.1 0 1.2 0 10 j / 61.0 - 0.0 1 2 u / 60.0 - 0.0 1 2 u", ("60.0 - 0.0 1 2 u", "61.0 - 0.0 1 2 u")),
                ("9.1 - 0.0 0 0 u / 9.2 - 0.1 0 0 u / 9.1 - 0.1 0 0 u", ("9.1 - 0.0 0 0 u", "9.1 - 0.1 0 0 u")),
                ("9.3 - 0.5 0 0 u / 9.3 - 0.6 0 0 u / 9.1 - 0.5 0 0 u", ("9.3 - 0.5 0 0 u", "9.3 - 0.6 0 0 u"))):
            told = self.unchanged(Clash, desk, "pour " + text)
            self.assertEqual(told.pair, tuple(read_piece(one) for one in pair))
            self.assertTrue(clash_by_words(*told.pair))

    def test_too_many(self):
        desk = Desk()
        pieces = sixty_pieces()
        desk.say("pour " + heap_text(pieces[:59]))
        self.unchanged(TooMany, desk, "pour 90.0 - 7.0 0 0 u / 90.1 - 7.1 0 0 u")
        self.says(desk, "tell " + piece_text(pieces[59]), "new")
        self.unchanged(TooMany, desk, "tell 90.0 - 7.0 0 0 u")
        self.unchanged(TooMany, desk, "pour 90.0 - 7.0 0 0 u")
        self.says(desk, "tell " + piece_text(pieces[7]), "again")
        self.says(desk, "pour " + heap_text(pieces), "0")
        self.says(desk, "back", "ok")
        self.says(desk, "tell 90.0 - 7.0 0 0 u", "new")

    def test_as_the_stages_refuse(self):
        desk = full()
        for cls, row in (
                (NoRun, "wood 4"), (NoRun, "shape 4"), (NoRun, "way 4"), (NoRun, "slack 4 0"), (NoRun, "wood 99"),
                (NotWhole, "shape 8"), (NotRight, "way 8"), (NotRight, "slack 8 4"), (NotRight, "slack 8 77"),
                (NoPiece, "slack 3 3"), (NoPiece, "slack 3 99"), (NoHouse, "span 1 1"), (NoHouse, "span 1 0"),
                (NoHouse, "span 0 1"), (NoHouse, "span 1 99")):
            self.unchanged(cls, desk, row)
        desk = desk_of("0.0 - 4.0 0 9 u", "0.1 0 6.0 0 10 j", "7.4 5 0.0 0 0 j", "7.5 4 0.1 0 0 j")
        for cls, row in (
                (NoShifts, "span 4 6"), (NoHouse, "span 4 4"), (NotRight, "way 0"), (NotRight, "slack 0 1"),
                (NotWhole, "shape 7"), (NotRight, "way 7")):
            self.unchanged(cls, desk, row)
        for row in ("wood 0", "span 0 1", "shape 0"):
            self.refused(NoRun if " 0" == row[-2:] else NoHouse, Desk(), row)

    def test_no_back(self):
        self.unchanged(NoBack, Desk(), "back")
        desk = Desk()
        for row in ("pour none", "tell " + TOP, "tell " + TOP, "pour " + TOP, "back"):
            desk.say(row)
        self.unchanged(NoBack, desk, "back")

    def test_back_behind_what_was_refused_as_ahead(self):
        desk = desk_of(TOP, KID)
        for row in (
                "tell 3.1 0 1.2 0 10 j", "tell ", "tell x", "pour 50.0 - 0.0 1 2 u / 3.1 0 1.2 0 10 j", "pour x", "wood 9",
                "back back", "pour 60.1 - 0.0 1 2 u / 60.1 - 0.1 1 2 u", "nonsense"):
            self.assertRaises(WoodError, desk.say, row)
        self.says(desk, "told", "2")
        self.says(desk, "back", "ok")
        self.says(desk, "shape 3", "2u")
        self.says(desk, "back", "ok")
        self.refused(NoBack, desk, "back")

    def test_by_name(self):
        self.assertEqual(Desk().say(row="told"), "0")


class AnySteps(Cases):

    def test_as_a_keeper_that_is_told_the_same(self):
        chance = random.Random(241)
        parts = [counted(right_run(chance, run, 5)) for run in range(4)]
        pieces = counted([one for part in parts for one in part])
        late = [one[:6] + (one[6] + 1, one[7]) for one in pieces[:8]]
        for _ in range(25):
            desk, keeper = Desk(), Keeper()
            for _ in range(60):
                step = chance.random()
                if step < 0.6:
                    one = chance.choice(pieces + late)
                    row, ask = "tell " + piece_text(one), lambda one=one: "new" if keeper.tell(one) else "again"
                elif step < 0.8:
                    some = [chance.choice(pieces + late[:1]) for _ in range(chance.randrange(5))]
                    row, ask = "pour " + heap_text(some), lambda some=some: str(self.poured(keeper, some))
                else:
                    row, ask = "back", lambda: keeper.back() or "ok"
                try:
                    expected = ask()
                except WoodError as error:
                    expected = refusal(error)
                self.assertEqual(heard(desk, [row]), [expected])
                self.says(desk, "told", str(keeper.tellings_now()))
                self.says(desk, "runs", " ".join(str(run) for run in keeper.runs_now()) or "none")

    def poured(self, keeper, some):
        fresh = Keeper()
        for one in some:
            fresh.tell(one)
        return keeper.pour(fresh)


if __name__ == "__main__":
    unittest.main()
