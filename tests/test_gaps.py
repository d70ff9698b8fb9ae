"""Point 17: gaps of runs, the bounds of whoever fills one, and whether a piece does."""

import random
import unittest

from latewood.errors import Clash, NoGap, NoRun, NotOne, NoWood
from latewood.gaps import fills, gap_of
from latewood.ways import is_right
from latewood.woods import is_whole_run, wood_of

from helpers import (
    FAR_NUMBERS, NO_NUMBERS, asking, askers_of, beside, clash_by_words, counted, make, nested, piece, random_heap, retold,
    right_run, up_by_words, within_by_words,
)

LONG = 10 ** 30 - 1

# Number 5 is the gap: with kids that are joined (1 and 3) and one that isn't (2); the top is 0.
TOPPED = [
    piece(0, -1, 0, 100), piece(1, 5, 20, 30), piece(2, 5, 35, 300, False), piece(3, 5, 25, 32), piece(4, 3, 26, 31),
    piece(6, 0, 1, 2),
]
TOPLESS = TOPPED[1:5]

# The gap's kids reach farther than its top.
TOO_LATE = [piece(0, -1, 0, 100), piece(1, 5, -4, 30)]


def fills_by_words(heap, filler):
    """What point 17 says of a piece and a heap, apart from the program."""
    askers = askers_of(heap, filler[0])
    mine = [one for one in set(heap) if one[0] == filler[0]]
    tops = [one for one in mine if one[2] == -1]
    if len(tops) > 1 or any(up_by_words(askers, number)[1] for number in askers):
        return False
    if filler[1] in askers or filler[1] not in askers.values():
        return False
    if any(clash_by_words(filler, other) for other in heap) or filler[7]:
        return False
    if filler[2] != (tops[0][1] if tops else -1):
        return False
    asked = [(one, filler) for one in mine if one[2] == filler[1]] + [(filler, top) for top in tops]
    return all(within_by_words(one, asker) for one, asker in asked)


def filler(begin, end, number=5, asker=0, run=0, house=7, count=500):
    """A piece that may fill a gap."""
    return make(run, number, asker, house, count, begin, end)


class Gaps(unittest.TestCase):

    def told(self, heap, number, bounds, run=0):
        for pieces in (heap, heap[::-1] * 2, heap + beside(), beside() + heap):
            self.assertEqual(gap_of(pieces, run, number), bounds)
            self.assertIs(type(gap_of(pieces, run, number)), tuple)

    def test_with_a_joined_kid(self):
        self.told([piece(0, -1, 0, 100), piece(1, 5, 20, 30)], 5, (0, 20, 30))
        self.told([piece(1, 5, 20, 30)], 5, (None, 20, 30))

    def test_with_a_kid_that_is_not_joined(self):
        self.told([piece(0, -1, 0, 100), piece(1, 5, 20, 30, False)], 5, (0, 20, 20))
        self.told([piece(1, 5, 20, 30, False)], 5, (None, 20, 20))

    def test_with_several(self):
        self.told(TOPPED, 5, (0, 20, 35))
        self.told(TOPLESS, 5, (None, 20, 35))
        self.told([piece(1, 5, 20, 30), piece(3, 5, 15, 36), piece(2, 5, 35, 300, False)], 5, (None, 15, 36))
        self.told([piece(1, 5, 20, 30), piece(3, 5, 15, 36), piece(2, 5, 14, 300, False)], 5, (None, 14, 36))

    def test_where_the_top_ends_first(self):
        self.told([piece(0, -1, 0, 10), piece(1, 5, 20, 30)], 5, (0, 10, 30))
        self.told([piece(0, -1, 0, 20), piece(1, 5, 20, 30)], 5, (0, 20, 30))
        self.told([piece(0, -1, 0, 10), piece(1, 5, 11, 30, False), piece(2, 5, 30, 90, False)], 5, (0, 10, 30))

    def test_where_first_is_beyond_last(self):
        self.told(TOO_LATE, 5, (0, -4, 30))
        self.told([piece(0, -1, 50, 100), piece(1, 5, 20, 30)], 5, (50, 20, 30))
        self.told([piece(0, -1, 50, 100), piece(1, 5, 20, 30), piece(2, 5, 60, 70)], 5, (50, 20, 70))

    def test_first_and_last_alike(self):
        self.told([piece(0, -1, 20, 100), piece(1, 5, 20, 30)], 5, (20, 20, 30))
        self.told([piece(0, -1, 7, 7), piece(1, 5, 20, 30)], 5, (7, 7, 30))

    def test_kids_of_kids_and_others_have_none_to_do_with_it(self):
        heap = [piece(0, -1, 0, 100), piece(1, 5, 20, 30), piece(2, 1, -50, 80), piece(3, 0, 10, 90), piece(4, 3, 1, 99)]
        self.told(heap, 5, (0, 20, 30))

    def test_several_gaps(self):
        heap = [piece(0, -1, 0, 100), piece(1, 5, 20, 30), piece(2, 6, 40, 50), piece(3, 6, 45, 46), piece(4, 0, 3, 4)]
        self.told(heap, 5, (0, 20, 30))
        self.told(heap, 6, (0, 40, 50))
        self.told(heap[1:4], 5, (None, 20, 30))
        self.told(heap[1:4], 6, (None, 40, 50))

    def test_the_numbers_at_the_ends(self):
        self.told([piece(9, -1, 0, 100), piece(1, 0, 20, 30)], 0, (0, 20, 30))
        self.told([piece(1, 0, 20, 30)], 0, (None, 20, 30))
        self.told([piece(1, 99, 20, 30)], 99, (None, 20, 30))

    def test_times_of_thirty_figures(self):
        self.told([piece(0, -1, -LONG, LONG), piece(1, 5, 1 - LONG, LONG - 1)], 5, (-LONG, 1 - LONG, LONG - 1))
        self.told([piece(0, -1, -LONG, -LONG), piece(1, 5, LONG, LONG)], 5, (-LONG, -LONG, LONG))

    def test_of_the_run_that_is_asked_for(self):
        heap = TOPPED + [piece(8, -1, 3, 9, run=4), piece(1, 5, 5, 8, run=4), piece(2, 5, 6, 7, run=6)]
        self.told(heap, 5, (0, 20, 35))
        self.told(heap, 5, (3, 5, 8), 4)
        self.told(heap, 5, (None, 6, 7), 6)

    def test_beside_runs_of_all_kinds(self):
        for askers in ({4: 5, 5: 4}, {4: -1, 5: -1}, {4: -1, 3: 5}):
            self.told(TOPPED + asking(askers, run=9), 5, (0, 20, 35))

    def test_fifty_nine_kids(self):
        heap = [piece(0, -1, 0, 1000)] + [piece(k, 77, 100 + k, 300 - k, k % 2 == 0) for k in range(1, 60)]
        self.told(heap, 77, (0, 101, 298))

    def test_by_names(self):
        self.assertEqual(gap_of(number=5, run=0, heap=TOPPED), (0, 20, 35))
        self.assertIs(fills(piece=filler(0, 35), heap=TOPPED), True)


class Fills(unittest.TestCase):

    def told(self, heap, one, so):
        before = list(heap)
        for pieces in (heap, heap[::-1] * 2, heap + beside(), beside() + heap):
            self.assertIs(fills(pieces, one), so, one)
        self.assertEqual(heap, before)

    def test_at_each_bound_and_one_beyond(self):
        for begin, end, so in (
                (0, 35, True), (20, 35, True), (0, 36, True), (20, 36, True), (7, 60, True), (10, 100, True), (0, 5000, True),
                (20, LONG, True), (-1, 35, False), (21, 35, False), (0, 34, False), (20, 34, False), (-1, 36, False),
                (21, 36, False), (-LONG, LONG, False), (35, 35, False), (0, 0, False), (-5, -1, False), (101, 120, False)):
            self.told(TOPPED, filler(begin, end), so)

    def test_where_no_top_is_known(self):
        for begin, end, so in (
                (20, 35, True), (-LONG, 35, True), (-LONG, LONG, True), (0, 36, True), (21, 35, False), (20, 34, False),
                (-LONG, 34, False), (35, 35, False), (-LONG, -LONG, False)):
            self.told(TOPLESS, filler(begin, end, asker=-1), so)

    def test_begin_and_end_alike(self):
        heap = [piece(0, -1, 0, 100), piece(1, 5, 20, 90, False), piece(2, 5, 20, 20)]
        for at in (19, 20, 21):
            self.told(heap, filler(at, at), at == 20)
            self.told(heap[1:], filler(at, at, asker=-1), at == 20)

    def test_at_the_end_of_the_top(self):
        heap = [piece(0, -1, 0, 10), piece(1, 5, 20, 30)]
        for begin, so in ((9, True), (10, True), (11, False), (20, False), (0, True), (-1, False)):
            self.told(heap, filler(begin, 30), so)

    def test_where_first_is_beyond_last(self):
        for begin in range(-6, 7):
            for end in (29, 30, 31, 99, 100, 200):
                self.told(TOO_LATE, filler(begin, end), False)

    def test_asked_by_another_one(self):
        for asker in (-1, 1, 2, 3, 4, 6, 7, 99):
            self.told(TOPPED, filler(5, 50, asker=asker), False)
        for asker in (0, 1, 2, 3, 4, 6, 99):
            self.told(TOPLESS, filler(5, 50, asker=asker), False)
        self.told(TOPLESS, filler(5, 50, asker=-1), True)

    def test_asked_by_another_top(self):
        heap = [piece(9, -1, 0, 100), piece(1, 5, 20, 30)]
        self.told(heap, filler(5, 50, asker=9), True)
        self.told(heap, filler(5, 50, asker=0), False)
        self.told(heap, filler(5, 50, asker=-1), False)

    def test_joined(self):
        self.told(TOPPED, filler(5, 50)[:7] + (True,), False)
        self.told(TOPPED, filler(5, 50), True)

    def test_of_another_number(self):
        for number in (0, 1, 2, 3, 4, 6):
            self.told(TOPPED, filler(5, 50, number, asker=-1 if number == 0 else 0), False)
        for number in (7, 8, 99):
            self.told(TOPPED, filler(5, 50, number), False)
            self.told(TOPLESS, filler(5, 50, number, -1), False)
        self.told(TOPLESS, filler(5, 50, 0, -1), False)

    def test_of_another_run(self):
        for run in (1, 2, 99):
            self.told(TOPPED, filler(5, 50, run=run), False)
            self.told(TOPPED, filler(5, 50, asker=-1, run=run), False)
        self.assertIs(fills([], filler(5, 50)), False)
        self.assertIs(fills([], filler(5, 50, asker=-1)), False)
        heap = TOPPED + [piece(8, -1, 3, 9, run=4), piece(1, 5, 5, 8, run=4)]
        self.told(heap, filler(4, 20, asker=8, run=4), True)
        self.told(heap, filler(5, 50, asker=8, run=4), True)
        self.told(heap, filler(6, 50, asker=8, run=4), False)
        self.told(heap, filler(4, 20, asker=0, run=4), False)
        self.told(heap, filler(2, 20, asker=8, run=4), False)

    def test_a_clash_by_house_and_count(self):
        for one in TOPPED:
            self.told(TOPPED, filler(5, 50, house=one[3], count=one[4]), False)
            self.told(TOPPED, filler(5, 50, house=one[3], count=900), True)
            self.told(TOPPED, filler(5, 50, house=7, count=one[4]), True)
        heap = TOPPED + [make(70, 1, -1, 7, 33, 0, 9)]
        self.told(heap, filler(5, 50, house=7, count=33), False)
        self.told(heap, filler(5, 50, house=7, count=32), True)

    def test_a_piece_that_the_heap_has_or_that_has_its_number(self):
        for one in TOPPED:
            self.told(TOPPED, one, False)
            self.told(TOPPED, one[:5] + (5, 50, False), False)
        for one in TOPLESS:
            self.told(TOPLESS, one, False)
        whole = TOPPED + [filler(5, 50)]
        self.told(whole, filler(5, 50), False)
        self.told(whole, filler(5, 51), False)
        self.told(whole, filler(5, 50, count=501), False)

    def test_runs_that_are_none_for_it(self):
        times = filler(0, 0)
        for askers in ({0: -1, 7: 5, 1: 2, 2: 1}, {0: -1, 8: -1, 7: 5}, {0: -1}, {0: -1, 5: 0, 7: 5}, {5: 7, 7: 5}):
            self.told(asking(askers), times, False)
            self.told(asking(askers), filler(0, 0, asker=-1), False)
        self.told(asking({0: -1, 7: 5}), times, True)
        self.told(asking({0: -1, 7: 5, 1: 2}), times, True)
        self.told(asking({7: 5, 1: 2}), filler(0, 0, asker=-1), True)
        # What another run is makes no difference.
        self.told(asking({0: -1, 7: 5}) + asking({5: 7, 7: 5}, 3) + asking({5: -1, 7: -1}, 4), times, True)

    def test_a_ring_beside_the_gap(self):
        heap = TOPPED + [piece(8, 9, 0, 1), piece(9, 8, 0, 1)]
        self.told(heap, filler(5, 50), False)
        self.told(TOPPED + [piece(8, -1, 0, 1)], filler(5, 50), False)

    def test_what_fills_makes_right_runs_right_again(self):
        chance = random.Random(170)
        for _ in range(200):
            heap = right_run(chance, 0, chance.randrange(2, 9), top=0.1)
            top = heap[0]
            lost = [one for one in heap if one[2] == top[1] and any(other[2] == one[1] for other in heap)]
            for one in lost:
                left = [other for other in heap if other != one]
                first, last, until = gap_of(left, 0, one[1])
                self.assertTrue(first <= one[5] <= last and until <= one[6])
                free = one[:7] + (False,)
                self.assertIs(fills(left, free), True)
                self.assertIs(is_right(left + [free], 0), True)
                self.assertIs(fills(left, one), not one[7])

    def test_each_bound_is_come_to_and_none_goes_beyond(self):
        chance = random.Random(171)
        filled = empty = 0
        for _ in range(150):
            heap = right_run(chance, 0, chance.randrange(2, 7), long=6, top=0.1)
            if chance.random() < 0.4:
                heap = [one[:5] + (one[5] - 2, one[6], one[7]) if chance.random() < 0.4 else one for one in heap]
            heap = [one for one in heap if chance.random() < 0.7]
            wood = wood_of(heap, 0) if heap else ("wood", [], [])
            for gap in wood[2]:
                first, last, until = gap_of(retold(chance, heap), 0, gap)
                low, high = min(one[5] for one in heap) - 3, max(one[6] for one in heap) + 3
                asker = wood[1][0] if wood[1] else -1
                so = {
                    (begin, end) for begin in range(low, high + 1) for end in range(begin, high + 1)
                    if fills(heap, filler(begin, end, gap, asker))
                }
                self.assertEqual(so, {
                    (begin, end) for begin in range(low, high + 1) for end in range(begin, high + 1)
                    if fills_by_words(heap, filler(begin, end, gap, asker))
                })
                empty += not so
                filled += bool(so)
                if so:
                    self.assertEqual(max(begin for begin, _ in so), last)
                    self.assertEqual(min(end for _, end in so), max(until, low if first is None else first))
                    self.assertEqual(min(begin for begin, _ in so), low if first is None else first)
                    for begin, end in so:
                        whole = heap + [filler(begin, end, gap, asker)]
                        self.assertEqual(is_whole_run(whole, 0), len(wood[2]) == 1)
                else:
                    self.assertGreater(first, last)
        self.assertGreater(filled, 50)
        self.assertGreater(empty, 3)

    def test_as_the_words_tell(self):
        chance = random.Random(172)
        found = [0, 0]
        for _ in range(8000):
            heap = counted(sorted({one[:2]: one for one in random_heap(chance, most=5, runs=2, numbers=5)}.values()))
            begin = chance.randrange(-30, 20)
            one = make(
                chance.randrange(2), chance.randrange(5), chance.randrange(-1, 5), chance.randrange(4), chance.randrange(5),
                begin, begin + chance.randrange(40), chance.random() < 0.1)
            if one[1] == one[2] or one[2] == -1 and one[7]:
                continue
            so = fills_by_words(heap, one)
            self.assertIs(fills(retold(chance, heap), one), so)
            found[so] += 1
        self.assertGreater(min(found), 15)


class Refusals(unittest.TestCase):

    def refused(self, cls, *things):
        with self.assertRaises(cls, msg=repr(things[1:])[:99]) as held:
            gap_of(*things)
        self.assertIs(type(held.exception), cls)

    def test_no_run(self):
        heaps = [[piece(1, 5, 20, 30, run=1)], TOPPED, asking({4: 5, 5: 4}), asking({4: -1, 5: -1}), []]
        for heap in heaps:
            for run in NO_NUMBERS + FAR_NUMBERS + (2, 3, nested(20), nested(20, list), (0,) * 20000):
                for number in (5, 0, 77, None, True, [], nested(20, list)):
                    self.refused(NoRun, heap, run, number)
        for number in (5, 0, None):
            self.refused(NoRun, TOPPED, 1, number)
            self.refused(NoRun, [], 0, number)

    def test_no_wood(self):
        for askers in ({4: 5, 5: 4}, {0: -1, 4: 5, 5: 4}, {0: -1, 1: -1, 4: 5, 5: 4}, {4: 5, 5: 4, 1: 7}):
            for number in NO_NUMBERS + FAR_NUMBERS + (0, 1, 4, 5, 7, 77, nested(20), nested(20, list)):
                self.refused(NoWood, asking(askers), 0, number)
                self.refused(NoWood, TOPPED + asking(askers, 6), 6, number)

    def test_not_one(self):
        for askers in ({4: -1, 5: -1}, {0: -1, 4: -1, 5: -1}, {0: -1, 1: -1, 4: 7}, {0: -1, 1: -1, 2: 0, 3: 1}):
            for number in NO_NUMBERS + FAR_NUMBERS + (0, 1, 4, 5, 7, 77, nested(20), nested(20, list)):
                self.refused(NotOne, asking(askers), 0, number)
                self.refused(NotOne, TOPPED + asking(askers, 6), 6, number)

    def test_no_gap(self):
        things = NO_NUMBERS + FAR_NUMBERS + (77, nested(20), nested(20, list), (5,) * 20000, "5", [5], (5,))
        for thing in things + (0, 1, 2, 3, 4, 6):
            self.refused(NoGap, TOPPED, 0, thing)
        for thing in things + (0, 1, 2, 3, 4, 6):
            self.refused(NoGap, TOPLESS, 0, thing)
        for thing in things + (0, 5):
            self.refused(NoGap, [piece(0, -1, 0, 9)], 0, thing)
        # The gap is 1 or 0, which True or False equals.
        for thing in (True, False):
            self.refused(NoGap, [piece(7, 1, 0, 9), piece(8, 0, 0, 9)], 0, thing)

    def test_a_gap_of_another_run(self):
        heap = TOPPED + [piece(8, 9, 5, 8, run=4)]
        self.refused(NoGap, heap, 0, 9)
        self.refused(NoGap, heap, 4, 5)
        self.assertEqual(gap_of(heap, 4, 9), (None, 5, 8))

    def test_clash_ahead_of_all(self):
        low, high = piece(2, -1, 0, 4, run=6), piece(2, -1, 0, 5, run=6)
        for beside_it in ([], TOPPED, asking({4: 5, 5: 4}), asking({4: -1, 5: -1})):
            heap = [high] + beside_it + [low]
            before = list(heap)
            for run in (0, 6, 9, None, True, []):
                for number in (5, 0, 2, 77, None, True, []):
                    with self.assertRaises(Clash) as held:
                        gap_of(heap, run, number)
                    self.assertIs(type(held.exception), Clash)
                    self.assertEqual(held.exception.pair, (low, high))
            for one in (filler(5, 50), filler(5, 50, run=6), filler(5, 50, run=9), low, high, filler(5, 50, asker=-1)):
                with self.assertRaises(Clash) as held:
                    fills(heap, one)
                self.assertIs(type(held.exception), Clash)
                self.assertEqual(held.exception.pair, (low, high))
            self.assertEqual(heap, before)


if __name__ == "__main__":
    unittest.main()
