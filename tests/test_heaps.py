"""Points 5 and 6: heaps, which pieces clash, runs, houses and holes."""

import random
import unittest

from latewood.errors import Clash, WoodError
from latewood.heaps import cleared, holes_of, houses_of, runs_of
from latewood.pieces import is_piece

from helpers import least_by_words, make, random_heap, sixty_pieces

ALL = (cleared, runs_of, houses_of, holes_of)


class Refusing(unittest.TestCase):

    def refused(self, heap, pair):
        """Each of the four refuses the heap, in whatever order it is told, with just this pair."""
        chance = random.Random(len(heap))
        for _ in range(4):
            before = list(heap)
            for function in ALL:
                with self.assertRaises(Clash) as held:
                    function(heap)
                self.assertIsInstance(held.exception, WoodError)
                self.assertEqual(held.exception.pair, pair)
                self.assertIs(type(held.exception.pair), tuple)
                self.assertEqual(heap, before)
            heap = heap + [chance.choice(heap)]
            chance.shuffle(heap)

    def test_by_run_and_number(self):
        one, other = make(3, 4, house=0, count=7), make(3, 4, house=1, count=6)
        self.refused([one, other], (one, other))
        self.refused([other, one], (one, other))

    def test_by_house_and_count(self):
        one, other = make(1, 9, house=2, count=5), make(2, 8, house=2, count=5)
        self.refused([one, other], (one, other))
        self.refused([other, one], (one, other))

    def test_by_both(self):
        one, other = make(end=1), make(end=2)
        self.refused([other, one], (one, other))
        self.refused([other, one, other, one, one], (one, other))

    def test_unlike_in_one_place_alone(self):
        base = (5, 5, 7, 3, 500, -10, 20, True)
        likewise = (
            (2, 8), (2, 6), (5, -11), (5, 20), (6, 21), (6, 10 ** 30 - 1), (7, False), (3, 4), (4, 501), (0, 6), (1, 6),
        )
        for place, value in likewise:
            other = base[:place] + (value,) + base[place + 1:]
            self.assertTrue(is_piece(other))
            self.refused([base, other], tuple(sorted([base, other])))

    def test_no_clash(self):
        pairs = (
            (make(1, 2, house=3, count=4), make(1, 3, house=3, count=5)),
            (make(1, 2, house=3, count=4), make(2, 2, house=4, count=4)),
            (make(1, 2, house=2, count=1), make(2, 1, house=1, count=2)),
            (make(1, 2, house=3, count=4), make(3, 4, house=1, count=2)),
            (make(0, 1, house=0, count=0), make(1, 0, house=0, count=1)),
        )
        for one, other in pairs:
            self.assertEqual(cleared([other, one]), [one, other])

    def test_the_least_of_several_pairs(self):
        first, second, third = make(0, 0, count=5), make(1, 1, count=6), make(2, 2, count=7)
        by_count, by_number = make(9, 9, count=6), make(2, 2, house=1, count=9)
        self.refused([by_number, third, by_count, second, first], (second, by_count))
        self.refused([first, by_number, third], (third, by_number))

    def test_the_least_other_one_of_one_piece(self):
        one = make(0, 0, house=3, count=3)
        near, mid, far = make(0, 0, house=5), make(4, 4, house=3, count=3), make(8, 8, house=3, count=3)
        self.refused([far, mid, near, one], (one, near))
        self.refused([far, mid, one], (one, mid))
        self.refused([far, mid], (mid, far))

    def test_the_least_first_one_counts_ahead(self):
        low, high = make(0, 1, count=1), make(9, 9, count=1)
        near, next_one = make(1, 1, count=2), make(1, 1, count=3)
        self.refused([next_one, near, high, low], (low, high))

    def test_each_refusal_has_its_own_pair(self):
        told = []
        for run in (1, 2):
            try:
                cleared([make(run, end=2), make(run, end=1)])
            except Clash as error:
                told.append(error)
        self.assertEqual(told[0].pair, (make(1, end=1), make(1, end=2)))
        self.assertEqual(told[1].pair, (make(2, end=1), make(2, end=2)))

    def test_a_clash_among_sixty(self):
        pieces = sixty_pieces()
        for at in (0, 1, 31, 59):
            other = pieces[at][:6] + (1000, pieces[at][7])
            heap = pieces[:at] + pieces[at + 1:] + [pieces[at], other]
            self.refused(heap[1:] + heap[:1], (pieces[at], other))


class Cleared(unittest.TestCase):

    def test_none(self):
        self.assertEqual(cleared([]), [])
        self.assertIs(type(cleared([])), list)

    def test_one_told_once_and_often(self):
        for many in (1, 2, 7, 300):
            self.assertEqual(cleared([make()] * many), [make()])

    def test_any_order_and_however_often(self):
        chance = random.Random(5)
        pieces = sixty_pieces()
        for _ in range(20):
            some = chance.sample(pieces, chance.randrange(1, 61))
            heap = some + [chance.choice(some) for _ in range(chance.randrange(200))]
            chance.shuffle(heap)
            self.assertEqual(cleared(heap), [piece for piece in pieces if piece in some])

    def test_like_pieces_of_unlike_objects(self):
        heap = [tuple(list(make(end=10 ** 20))) for _ in range(5)]
        self.assertEqual(cleared(heap), [make(end=10 ** 20)])

    def test_sixty_told_three_hundred_times(self):
        pieces = sixty_pieces()
        heap = pieces * 5
        random.Random(6).shuffle(heap)
        self.assertEqual(len(heap), 300)
        self.assertEqual(cleared(heap), pieces)

    def test_rising_by_all_places(self):
        heap = [
            make(1, 0, count=0), make(0, 10, count=1), make(0, 2, count=2), make(0, 9, count=3),
            make(10, 0, count=4), make(2, 0, count=5), make(0, 3, count=999, begin=-10 ** 29),
        ]
        self.assertEqual([piece[:2] for piece in cleared(heap)],
                         [(0, 2), (0, 3), (0, 9), (0, 10), (1, 0), (2, 0), (10, 0)])

    def test_pieces_with_very_long_times(self):
        heap = [make(1, count=1, begin=10 ** 30 - 1, end=10 ** 30 - 1), make(0, begin=-10 ** 30 + 1, end=10 ** 30 - 1)]
        self.assertEqual(cleared(heap), heap[::-1])

    def test_somewhat_beyond_the_limits(self):
        heap = [make(k // 100, k % 100, house=k % 8, count=k) for k in range(130)]
        self.assertEqual(cleared(heap[::-1] * 4), heap)


class Runs(unittest.TestCase):

    def test_of_none(self):
        self.assertEqual(runs_of([]), [])
        self.assertEqual(houses_of([]), [])

    def test_rising(self):
        heap = [make(99, house=7), make(0, house=3), make(10, house=0), make(2, house=3, count=9), make(99, 4, house=1)]
        self.assertEqual(runs_of(heap), [0, 2, 10, 99])
        self.assertEqual(houses_of(heap), [0, 1, 3, 7])

    def test_many(self):
        heap = sixty_pieces() * 5
        self.assertEqual(runs_of(heap), [0, 1, 2, 3, 4, 5])
        self.assertEqual(houses_of(heap), [0, 1, 2, 3, 4, 5, 6])


class Holes(unittest.TestCase):

    def test_of_none(self):
        self.assertEqual(holes_of([]), [])

    def test_without_holes(self):
        self.assertEqual(holes_of([make()]), [])
        self.assertEqual(holes_of([make(number=2, count=2), make(count=0), make(number=1, count=1)]), [])

    def test_the_greatest_count_alone(self):
        self.assertEqual(holes_of([make(house=4, count=1)]), [(4, 0)])
        self.assertEqual(holes_of([make(house=4, count=3)]), [(4, 0), (4, 1), (4, 2)])
        self.assertEqual(holes_of([make(house=7, count=999)]), [(7, count) for count in range(999)])

    def test_between_and_below(self):
        heap = [make(number=k, house=2, count=count) for k, count in enumerate((6, 1, 3))]
        self.assertEqual(holes_of(heap), [(2, 0), (2, 2), (2, 4), (2, 5)])

    def test_each_house_by_itself(self):
        heap = [
            make(5, 0, house=6, count=2), make(1, 1, house=0, count=0), make(3, 2, house=3, count=1),
            make(0, 3, house=6, count=0), make(0, 4, house=0, count=2),
        ]
        self.assertEqual(holes_of(heap), [(0, 1), (3, 0), (6, 1)])

    def test_runs_make_no_difference(self):
        self.assertEqual(holes_of([make(run=8, count=0), make(run=3, count=1)]), [])
        self.assertEqual(holes_of([make(run=8, count=0), make(run=3, count=2)]), [(0, 1)])

    def test_told_often(self):
        heap = [make(count=2), make(number=1, count=0)]
        self.assertEqual(holes_of(heap * 9), [(0, 1)])

    def test_all_houses_with_their_greatest_counts(self):
        heap = [make(number=house, house=house, count=999) for house in range(8)]
        self.assertEqual(holes_of(heap), [(house, count) for house in range(8) for count in range(999)])


class AllOfThem(unittest.TestCase):
    """Points 2 and 3, of each of the four."""

    def heaps(self):
        chance = random.Random(7)
        heaps = [random_heap(chance) for _ in range(400)]
        heaps += [random_heap(chance, runs=9, numbers=90, houses=8, counts=60) for _ in range(400)]
        return heaps

    def test_as_the_words_tell(self):
        found = [0, 0]
        for heap in self.heaps():
            pair = least_by_words(heap)
            found[pair is None] += 1
            if pair is not None:
                for function in ALL:
                    with self.assertRaises(Clash) as held:
                        function(heap)
                    self.assertEqual(held.exception.pair, pair)
                continue
            self.assertEqual(cleared(heap), sorted(dict.fromkeys(heap)))
            self.assertEqual(runs_of(heap), [run for run in range(100) if any(p[0] == run for p in heap)])
            self.assertEqual(houses_of(heap), [house for house in range(8) if any(p[3] == house for p in heap)])
            self.assertEqual(holes_of(heap), [
                (house, count) for house in range(8) for count in range(60)
                if not any((p[3], p[4]) == (house, count) for p in heap)
                and any(p[3] == house and p[4] > count for p in heap)
            ])
        self.assertGreater(min(found), 100)

    def test_order_and_repeats_make_no_difference(self):
        chance = random.Random(8)
        heap = sixty_pieces()[::2]
        told = [function(heap) for function in ALL]
        for _ in range(30):
            again = heap + [chance.choice(heap) for _ in range(chance.randrange(100))]
            chance.shuffle(again)
            self.assertEqual([function(again) for function in ALL], told)

    def test_the_heap_stays_as_it_was(self):
        heap = sixty_pieces()[::-1] + sixty_pieces()[:30]
        before = list(heap)
        for function in ALL:
            function(heap)
            self.assertEqual(heap, before)

    def test_each_list_is_new_and_the_askers_own(self):
        heap = [make(count=2), make(number=1, house=1, count=1)]
        before = list(heap)
        for function in ALL:
            first = function(heap)
            kept = list(first)
            second = function(heap)
            self.assertIs(type(first), list)
            self.assertIsNot(first, second)
            self.assertIsNot(first, heap)
            first.append("mine")
            first[0] = None
            self.assertEqual(second, kept)
            second.clear()
            self.assertEqual(function(heap), kept)
            self.assertEqual(heap, before)

    def test_of_none_too_each_list_is_new(self):
        for function in ALL:
            first = function([])
            first.append("mine")
            self.assertEqual(function([]), [])

    def test_a_cleared_heap_is_no_part_of_the_heap(self):
        heap = [make(), make(number=1, count=1)]
        told = cleared(heap)
        self.assertIsNot(told, heap)
        heap.clear()
        self.assertEqual(told, [make(), make(number=1, count=1)])
        self.assertEqual(cleared(told), told)
        self.assertIsNot(cleared(told), told)

    def test_nothing_hangs_on_what_was_asked_ahead(self):
        good, bad = [make(count=3)], [make(count=3), make(count=4)]
        for _ in range(2):
            for function in ALL:
                with self.assertRaises(Clash):
                    function(bad)
            self.assertEqual([function(good) for function in ALL], [good, [0], [0], [(0, 0), (0, 1), (0, 2)]])
            self.assertEqual([function([]) for function in ALL], [[], [], [], []])

    def test_handed_in_by_name(self):
        heap = [make(2, house=5, count=1)]
        self.assertEqual(cleared(heap=heap), heap)
        self.assertEqual(runs_of(heap=heap), [2])
        self.assertEqual(houses_of(heap=heap), [5])
        self.assertEqual(holes_of(heap=heap), [(5, 0)])

    def test_tuples_and_numbers_are_told(self):
        heap = [make(2, house=5, count=1)]
        self.assertIs(type(cleared(heap)[0]), tuple)
        self.assertIs(type(holes_of(heap)[0]), tuple)
        self.assertIs(type(runs_of(heap)[0]), int)
        self.assertIs(type(houses_of(heap)[0]), int)


if __name__ == "__main__":
    unittest.main()
