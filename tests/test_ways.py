"""Points 12 to 14: heaps shifted, right runs, their ways, and own times."""

import random
import unittest

from latewood.errors import Clash, NoRun, NoShifts, NotRight
from latewood.shifts import shifts_of
from latewood.ways import is_right, own_times, shifted, way_of
from latewood.woods import is_whole_run

from helpers import (
    FAR_NUMBERS, NO_NUMBERS, asked_pairs, askers_of, asking, beside, clocked_heap, counted, make, moved, nested, piece,
    retold, right_run, whole_by_words, within_by_words,
)

LONG = 10 ** 30 - 1


def right_by_words(heap, run):
    """What point 12 says of a run, apart from the program."""
    mine = [one for one in heap if one[0] == run]
    return whole_by_words(askers_of(heap, run)) and all(within_by_words(*pair) for pair in asked_pairs(mine))


def way_by_words(pieces, whose, till):
    """What point 13 says of a piece's way till then, apart from the program."""
    kids = [one for one in pieces if one[2] == whose[1] and one[7] and one[5] < one[6] <= till]
    if not kids:
        return [(whose[1], whose[5], till)] if whose[5] < till else []
    last = sorted(kids, key=lambda one: (one[6], one[5], one[1]))[-1]
    own = [(whose[1], last[6], till)] if last[6] < till else []
    return way_by_words(pieces, whose, last[5]) + way_by_words(pieces, last, last[6]) + own


class Shifted(unittest.TestCase):

    HEAP = [
        make(0, 0, -1, 5, 0, 10, 50), make(0, 1, 0, 2, 0, 113, 148, True),
        make(0, 2, 0, 2, 1, 140, 199, False), make(3, 0, -1, 7, 0, -4, -4),
    ]

    def test_by_shifts(self):
        self.assertEqual(shifted(self.HEAP, [(2, -100), (5, 1), (7, 4)]), [
            make(0, 0, -1, 5, 0, 11, 51), make(0, 1, 0, 2, 0, 13, 48, True),
            make(0, 2, 0, 2, 1, 40, 99, False), make(3, 0, -1, 7, 0, 0, 0),
        ])

    def test_by_noughts(self):
        heap = counted([make(end=9), make(0, 1, 0, 1, 0, 2, 9, True), make(4, house=2, begin=-7, end=7)])
        rows = [(0, 0), (1, 0), (2, 0)]
        self.assertEqual(shifted(heap[::-1], rows), heap)
        self.assertIsNot(shifted(heap, rows), heap)

    def test_of_none(self):
        self.assertEqual(shifted([], []), [])

    def test_one_house_far(self):
        for by in (LONG, -LONG, 10 ** 39):
            rows = [(2, by - 100), (5, by), (7, 1 - LONG)]
            pieces = shifted(self.HEAP, rows)
            self.assertEqual([one[5:7] for one in pieces], [
                (10 + by, 50 + by), (13 + by, 48 + by), (40 + by, 99 + by), (-3 - LONG, -3 - LONG),
            ])

    def test_the_pieces_rise(self):
        chance = random.Random(120)
        heap = clocked_heap(chance, 3, 8, 3, 0.0)
        rows = shifts_of(heap)[1]
        by = dict(rows)
        for _ in range(10):
            told = shifted(retold(chance, heap), rows)
            self.assertIs(type(told), list)
            self.assertEqual(told, sorted(told))
            self.assertEqual(told, [moved(one, by[one[3]]) for one in sorted(heap)])

    def test_rows_and_heap_stay_as_they_were(self):
        heap, rows = self.HEAP[::-1] + self.HEAP[:1], [(2, -100), (5, 1), (7, 4)]
        told = shifted(heap, rows)
        self.assertEqual(rows, [(2, -100), (5, 1), (7, 4)])
        self.assertEqual(heap, self.HEAP[::-1] + self.HEAP[:1])
        kept = list(told)
        rows.clear()
        heap.clear()
        self.assertEqual(told, kept)

    def test_rows_that_are_no_shifts(self):
        rows = [(2, -100), (5, 1), (7, 4)]
        wrong = [
            [(2, -95), (5, 1), (7, 4)], [(2, -103), (5, 1), (7, 4)], rows[1:], rows[:2], rows[::-1], rows + rows[2:],
            rows + [(8, 0)], [(1, 0)] + rows, tuple(rows), [list(row) for row in rows], [(0, 0)] + rows[1:],
            [(2, -100), (5, True), (7, 4)], [(2, -100), (5, 1), (7, None)], [(2, -100), (5, "1"), (7, 4)], [],
            ("shifts", rows), [rows],
        ]
        for thing in wrong + list(NO_NUMBERS + FAR_NUMBERS) + [nested(20), nested(20, list), [(0, 0)] * 6000]:
            with self.assertRaises(NoShifts) as held:
                shifted(self.HEAP, thing)
            self.assertIs(type(held.exception), NoShifts)

    def test_of_none_by_other_things(self):
        for thing in [(), None, [(0, 0)], 0, "", False]:
            self.assertRaises(NoShifts, shifted, [], thing)

    def test_a_heap_that_has_no_shifts(self):
        heap = [make(end=4), make(0, 1, 0, 1, 0, 0, 5, True)]
        for by in range(-3, 4):
            self.assertRaises(NoShifts, shifted, heap, [(0, 0), (1, by)])

    def test_whole_runs_become_right(self):
        chance = random.Random(121)
        found = 0
        for _ in range(150):
            heap = clocked_heap(chance, 2, 6, 4, 0.05)
            kind, rows = shifts_of(heap)
            if kind == "ring":
                continue
            told = shifted(heap, rows)
            for run in (0, 1):
                self.assertIs(is_right(told, run), True)
                found += not is_right(heap, run)
        self.assertGreater(found, 100)


class Right(unittest.TestCase):

    def told(self, heap, right, run=0):
        for pieces in (heap, heap[::-1] * 2, heap + beside(), beside() + heap):
            self.assertIs(is_right(pieces, run), right)

    def test_a_top_alone(self):
        self.told([piece(5, -1, 3, 9)], True)
        self.told([piece(5, -1, 3, 3)], True)

    def test_joined(self):
        for begin, end in ((10, 50), (10, 10), (50, 50), (11, 49), (30, 30)):
            self.told([piece(0, -1, 10, 50), piece(1, 0, begin, end)], True)

    def test_joined_and_not_within(self):
        for begin, end in ((9, 50), (10, 51), (9, 51), (9, 9), (51, 51), (0, 5), (60, 70), (9, 10), (50, 51)):
            self.told([piece(0, -1, 10, 50), piece(1, 0, begin, end)], False)

    def test_not_joined(self):
        for begin, end in ((10, 50), (10, 10), (50, 50), (50, 51), (10, LONG), (50, LONG)):
            self.told([piece(0, -1, 10, 50), piece(1, 0, begin, end, False)], True)

    def test_not_joined_and_not_within(self):
        for begin, end in ((9, 50), (9, 9), (51, 51), (51, 60), (-LONG, LONG), (0, 5)):
            self.told([piece(0, -1, 10, 50), piece(1, 0, begin, end, False)], False)

    def test_deep_down(self):
        for joined in (True, False):
            heap = [piece(0, -1, 0, 100)] + [piece(k, k - 1, k, 100 - k) for k in range(1, 40)]
            self.told(heap + [piece(40, 39, 39, 61, joined)], True)
            self.told(heap + [piece(40, 39, 38, 61, joined)], False)
            self.told(heap + [piece(40, 39, 50, 62, joined)], not joined)
            self.told(heap + [piece(40, 39, 62, 62, joined)], False)

    def test_within_the_asker_and_not_the_top_alone(self):
        self.told([piece(0, -1, 0, 9), piece(1, 0, 3, 5), piece(2, 1, 5, 6)], False)
        self.told([piece(0, -1, 0, 9), piece(1, 0, 3, 20, False), piece(2, 1, 5, 20)], True)

    def test_as_it_stands_by_whatever_clocks(self):
        heap = [make(house=4, begin=10, end=50), make(0, 1, 0, house=6, begin=100, end=120, joined=True)]
        self.told(heap, False)
        self.told(shifted(heap, [(4, 0), (6, -80)]), True)
        self.told(shifted(heap, [(4, 90), (6, 0)]), True)

    def test_runs_that_are_not_whole(self):
        for askers in ({4: -1, 5: -1}, {5: 4}, {4: -1, 5: 3}, {4: 5, 5: 4}, {0: -1, 4: 5, 5: 4}):
            self.told(asking(askers), False)
            self.assertIs(is_whole_run(asking(askers), 0), False)

    def test_each_run_by_itself(self):
        heap = [piece(0, -1, 0, 9), piece(1, 0, 0, 10)]
        heap += [piece(0, -1, 0, 10, run=7), piece(1, 0, 0, 10, run=7)]
        self.told(heap, False)
        self.told(heap, True, 7)

    def test_as_the_words_tell(self):
        chance = random.Random(122)
        found = [0, 0]
        for _ in range(400):
            heap = []
            for run in (3, 90):
                mine = right_run(chance, run, chance.randrange(1, 7))
                if chance.random() < 0.6:
                    at = chance.randrange(len(mine))
                    wrong = mine[at]
                    begin = wrong[5] + chance.randrange(-2, 3)
                    mine[at] = wrong[:5] + (begin, max(begin, wrong[6] + chance.randrange(-2, 3)), wrong[7])
                if chance.random() < 0.1:
                    mine.pop(chance.randrange(len(mine)))
                heap += mine or [make(run)]
            heap = retold(chance, counted(heap))
            for run in (3, 90):
                right = right_by_words(heap, run)
                self.assertIs(is_right(heap, run), right)
                found[right] += 1
                if not right:
                    self.assertRaises(NotRight, way_of, heap, run)
                    self.assertRaises(NotRight, own_times, heap, run)
        self.assertGreater(min(found), 100)


class Ways(unittest.TestCase):

    def told(self, heap, way, run=0):
        """The run has this way, told in other orders and beside others, too, and own times by it."""
        times = {}
        for number, begin, end in way:
            times[number] = times.get(number, 0) + end - begin
        for pieces in (heap, heap[::-1] * 2, heap + beside(), beside() + heap):
            self.assertEqual(way_of(pieces, run), way)
            self.assertEqual(own_times(pieces, run), times)

    def test_of_a_top_alone(self):
        self.told([piece(7, -1, -3, 9)], [(7, -3, 9)])

    def test_of_a_top_that_takes_no_time(self):
        self.told([piece(7, -1, 5, 5)], [])
        self.told([piece(7, -1, 5, 5), piece(8, 7, 5, 5), piece(9, 7, 5, 60, False)], [])

    def test_by_a_kid(self):
        self.told([piece(0, -1, 0, 10), piece(1, 0, 3, 7)], [(0, 0, 3), (1, 3, 7), (0, 7, 10)])

    def test_no_share_without_time(self):
        self.told([piece(0, -1, 0, 10), piece(1, 0, 0, 7)], [(1, 0, 7), (0, 7, 10)])
        self.told([piece(0, -1, 0, 10), piece(1, 0, 3, 10)], [(0, 0, 3), (1, 3, 10)])
        self.told([piece(0, -1, 0, 10), piece(1, 0, 0, 10)], [(1, 0, 10)])
        self.told([piece(0, -1, 0, 10), piece(1, 0, 0, 4), piece(2, 0, 4, 10)], [(1, 0, 4), (2, 4, 10)])

    def test_kids_that_are_not_joined(self):
        self.told([piece(0, -1, 0, 10), piece(1, 0, 3, 7, False)], [(0, 0, 10)])
        self.told([piece(0, -1, 0, 10), piece(1, 0, 3, 70, False), piece(2, 1, 4, 9)], [(0, 0, 10)])
        heap = [piece(0, -1, 0, 10), piece(1, 0, 3, 9, False), piece(2, 0, 2, 6)]
        self.told(heap, [(0, 0, 2), (2, 2, 6), (0, 6, 10)])

    def test_kids_that_take_no_time(self):
        self.told([piece(0, -1, 0, 10), piece(1, 0, 7, 7)], [(0, 0, 10)])
        self.told([piece(0, -1, 0, 10), piece(1, 0, 10, 10), piece(2, 0, 0, 0)], [(0, 0, 10)])
        heap = [piece(0, -1, 0, 10), piece(9, 0, 7, 7), piece(2, 0, 2, 7), piece(8, 0, 2, 2), piece(1, 0, 0, 2)]
        self.told(heap, [(1, 0, 2), (2, 2, 7), (0, 7, 10)])

    def test_the_one_that_ends_last(self):
        heap = [piece(0, -1, 0, 10), piece(9, 0, 5, 7), piece(1, 0, 1, 8), piece(5, 0, 6, 7)]
        self.told(heap, [(0, 0, 1), (1, 1, 8), (0, 8, 10)])

    def test_of_like_ends_the_one_that_begins_last(self):
        heap = [piece(0, -1, 0, 10), piece(9, 0, 1, 8), piece(1, 0, 5, 8), piece(8, 0, 4, 8)]
        self.told(heap, [(0, 0, 5), (1, 5, 8), (0, 8, 10)])

    def test_of_like_times_the_greatest_number(self):
        heap = [piece(0, -1, 0, 10), piece(9, 0, 5, 8), piece(10, 0, 5, 8), piece(2, 0, 5, 8)]
        self.told(heap, [(0, 0, 5), (10, 5, 8), (0, 8, 10)])
        heap = [piece(50, -1, 0, 10), piece(60, 50, 5, 10), piece(9, 50, 5, 10), piece(40, 60, 6, 7), piece(99, 9, 6, 7)]
        self.told(heap, [(50, 0, 5), (60, 5, 6), (40, 6, 7), (60, 7, 10)])

    def test_kids_that_end_too_late_by_then(self):
        heap = [piece(0, -1, 0, 20), piece(1, 0, 10, 18), piece(2, 0, 5, 11), piece(3, 0, 2, 9)]
        self.told(heap, [(0, 0, 2), (3, 2, 9), (0, 9, 10), (1, 10, 18), (0, 18, 20)])
        heap[2] = piece(2, 0, 5, 10)
        self.told(heap, [(0, 0, 5), (2, 5, 10), (1, 10, 18), (0, 18, 20)])

    def test_each_kid_once(self):
        heap = [piece(0, -1, 0, 9)] + [piece(k, 0, k - 1, k) for k in range(1, 10)]
        self.told(heap, [(k, k - 1, k) for k in range(1, 10)])
        heap = [piece(0, -1, 0, 90)] + [piece(k, 0, 7 * k, 7 * k + 5) for k in range(1, 10)]
        way = [(0, 0, 7)]
        for k in range(1, 10):
            way += [(k, 7 * k, 7 * k + 5), (0, 7 * k + 5, 7 * k + 7)]
        self.told(heap, way[:-1] + [(0, 68, 90)])

    def test_kids_of_kids(self):
        heap = [
            piece(0, -1, 0, 100), piece(1, 0, 10, 90), piece(2, 1, 20, 60), piece(3, 1, 60, 80), piece(4, 2, 30, 60),
            piece(5, 4, 30, 31), piece(6, 0, 0, 10), piece(7, 0, 0, 12), piece(8, 6, 5, 9),
        ]
        self.told(heap, [
            (6, 0, 5), (8, 5, 9), (6, 9, 10), (1, 10, 20), (2, 20, 30), (5, 30, 31), (4, 31, 60), (3, 60, 80), (1, 80, 90),
            (0, 90, 100),
        ])

    def test_joined_below_what_is_not_joined(self):
        heap = [piece(0, -1, 0, 10), piece(1, 0, 2, 10), piece(2, 1, 3, 8, False), piece(3, 2, 4, 8), piece(4, 1, 3, 5)]
        self.told(heap, [(0, 0, 2), (1, 2, 3), (4, 3, 5), (1, 5, 10)])

    def test_sixty_each_asked_by_the_last(self):
        heap = [piece(0, -1, 0, 200)] + [piece(k, k - 1, k, 200 - k) for k in range(1, 60)]
        way = [(k, k, k + 1) for k in range(59)] + [(59, 59, 141)]
        way += [(k, 199 - k, 200 - k) for k in range(58, -1, -1)]
        self.told(heap, way)
        times = own_times(heap, 0)
        self.assertEqual(times, {**{k: 2 for k in range(59)}, 59: 82})

    def test_sixty_asked_by_the_top(self):
        heap = [piece(0, -1, -5, 300)] + [piece(k, 0, 5 * k - 5, 5 * k) for k in range(1, 60)]
        self.told(heap, [(0, -5, 0)] + [(k, 5 * k - 5, 5 * k) for k in range(1, 60)] + [(0, 295, 300)])

    def test_a_hundred_pieces_deep(self):
        heap = [piece(0, -1, 0, 99)] + [piece(k, k - 1, k, 99) for k in range(1, 100)]
        self.told(heap, [(k, k, k + 1) for k in range(99)])

    def test_times_of_thirty_figures(self):
        heap = [piece(0, -1, -LONG, LONG), piece(1, 0, 1 - LONG, LONG - 1)]
        self.told(heap, [(0, -LONG, 1 - LONG), (1, 1 - LONG, LONG - 1), (0, LONG - 1, LONG)])

    def test_of_the_run_that_is_asked_for(self):
        heap = [piece(0, -1, 0, 9), piece(1, 0, 2, 3), piece(0, -1, 50, 60, run=5), piece(2, 0, 51, 60, run=5)]
        self.told(heap, [(0, 0, 2), (1, 2, 3), (0, 3, 9)])
        self.told(heap, [(0, 50, 51), (2, 51, 60)], 5)

    def test_kinds(self):
        heap = [piece(0, -1, 0, 10), piece(1, 0, 3, 7)]
        self.assertIs(type(way_of(heap, 0)), list)
        self.assertEqual([type(share) for share in way_of(heap, 0)], [tuple] * 3)
        self.assertIs(type(own_times(heap, 0)), dict)

    def test_as_the_words_tell(self):
        chance = random.Random(130)
        longest = 0
        for _ in range(500):
            heap = counted(
                right_run(chance, 0, chance.randrange(1, 25), chance.choice((4, 12, 40)), top=0.05)
                + right_run(chance, 1, 5)
            )
            heap = retold(chance, heap)
            for run in (0, 1):
                mine = [one for one in set(heap) if one[0] == run]
                top = [one for one in mine if one[2] == -1][0]
                way = way_of(heap, run)
                self.assertEqual(way, way_by_words(mine, top, top[6]))
                self.follows(way, top)
                self.assertEqual(sum(own_times(heap, run).values()), top[6] - top[5])
                self.assertEqual(sorted(own_times(heap, run)), sorted({number for number, _, _ in way}))
                longest = max(longest, len(way))
        self.assertGreater(longest, 8)

    def follows(self, way, top):
        """The shares follow one another from the top's begin to its end, each with time."""
        at = top[5]
        for _, begin, end in way:
            self.assertEqual(begin, at)
            self.assertLess(begin, end)
            at = end
        self.assertEqual(at, top[6])


class OwnTimes(unittest.TestCase):

    def test_the_shares_of_a_piece_are_added(self):
        heap = [piece(0, -1, 0, 100), piece(3, 0, 10, 30), piece(2, 0, 40, 90), piece(5, 2, 50, 51)]
        self.assertEqual(own_times(heap, 0), {0: 30, 3: 20, 2: 49, 5: 1})

    def test_pieces_that_are_not_in_the_way(self):
        heap = [piece(0, -1, 0, 100), piece(1, 0, 20, 100), piece(2, 0, 30, 90), piece(3, 0, 100, 100), piece(4, 0, 0, 30)]
        self.assertEqual(own_times(heap, 0), {0: 20, 1: 80})

    def test_a_piece_whose_kids_have_all_its_time(self):
        heap = [piece(0, -1, 0, 100), piece(1, 0, 0, 100), piece(2, 1, 0, 40), piece(3, 1, 40, 100)]
        self.assertEqual(own_times(heap, 0), {2: 40, 3: 60})

    def test_of_none(self):
        self.assertEqual(own_times([piece(0, -1, 4, 4)], 0), {})


class Refusals(unittest.TestCase):

    def refused(self, cls, function, *things):
        with self.assertRaises(cls, msg=things[1:]) as held:
            function(*things)
        self.assertIs(type(held.exception), cls)

    def test_no_run(self):
        heaps = [
            [piece(0, -1, 0, 9, run=1), piece(1, 0, 2, 3, run=1)], [piece(4, 0, 2, 3, run=1)],
            [piece(0, -1, 0, 9), piece(0, -1, 0, 9, run=1)], [piece(0, -1, 0, 9), piece(1, 0, 9, 10)], [],
        ]
        for heap in heaps:
            for thing in NO_NUMBERS + FAR_NUMBERS + (2, 3, nested(20), nested(20, list), (0,) * 20000):
                for function in (is_right, way_of, own_times):
                    self.refused(NoRun, function, heap, thing)

    def test_not_right(self):
        runs = [asking(askers) for askers in ({4: -1, 5: -1}, {5: 4}, {4: -1, 5: 3}, {4: 5, 5: 4}, {0: -1, 4: 5, 5: 4})]
        runs += [
            [piece(0, -1, 10, 50), piece(1, 0, 9, 50)], [piece(0, -1, 10, 50), piece(1, 0, 10, 51)],
            [piece(0, -1, 10, 50), piece(1, 0, 51, 51, False)], [piece(0, -1, 10, 50), piece(1, 0, 9, 50, False)],
        ]
        good = [piece(0, -1, 0, 9, run=7)]
        for heap in runs:
            self.refused(NotRight, way_of, heap, 0)
            self.refused(NotRight, own_times, heap, 0)
            self.refused(NotRight, way_of, heap + good, 0)
            self.assertEqual(way_of(heap + good, 7), [(0, 0, 9)])
            self.assertEqual(own_times(heap + good, 7), {0: 9})

    def test_clash_ahead_of_all(self):
        low, high = piece(2, -1, 0, 4, run=6), piece(2, -1, 0, 5, run=6)
        heap = [high, piece(0, -1, 0, 9), piece(4, 0, 2, 3, run=1), low]
        for thing in (0, 1, 6, 9, None, True, [], [(0, 0), (1, 0), (6, 0)]):
            for function in (shifted, is_right, way_of, own_times):
                with self.assertRaises(Clash) as held:
                    function(heap, thing)
                self.assertEqual(held.exception.pair, (low, high))


if __name__ == "__main__":
    unittest.main()
