"""Points 9 and 10: the ties of a heap, and its shifts or a ring of its houses."""

import random
import unittest

from latewood.errors import Clash
from latewood.shifts import are_shifts, is_ring, shifts_of, ties_of

from helpers import (
    FAR_NUMBERS, NO_NUMBERS, clocked_heap, come_to, counted, kept_by_words, make, moved, nested, retold, sixty_pieces,
    ties_by_words,
)

LONG = 10 ** 30 - 1

# No rows and no ring, of whatever heap that has pieces.
OTHER_THINGS = NO_NUMBERS + FAR_NUMBERS + (
    nested(20), nested(20, list), ((),) * 3, [()], [(0,)], [None], [[0, 0]], ("shifts", [(0, 0), (1, 0)]), ("ring", (0, 1)),
    "shifts", [0, 1], ((0, 0), (1, 0)), (0,) * 19999 + (None,), [(0, 0)] * 6000,
)


def two(asker, kid, joined=True, houses=(0, 1)):
    """A heap of a top and a kid, by their begins and ends."""
    return [
        make(house=houses[0], begin=asker[0], end=asker[1]),
        make(number=1, asker=0, house=houses[1], count=1, begin=kid[0], end=kid[1], joined=joined),
    ]


def ring_heap(mosts):
    """A heap with ties round from house 0 to 1 and on, of these mosts, and wide ones the other way."""
    pieces = []
    for y, most in enumerate(mosts):
        x = (y + 1) % len(mosts)
        # The kid's begin less the asker's is the most; the asker ends late enough to tie nothing.
        pieces.append(make(run=y, number=0, house=x, begin=0, end=10 ** 6))
        pieces.append(make(run=y, number=1, asker=0, house=y, begin=most, end=most))
    return counted(pieces)


class Ties(unittest.TestCase):

    def test_of_none(self):
        self.assertEqual(ties_of([]), [])
        self.assertEqual(ties_of([make(), make(1, house=1)]), [])

    def test_joined(self):
        self.assertEqual(ties_of(two((10, 50), (13, 48))), [(0, 1, 2), (1, 0, 3)])
        self.assertEqual(ties_of(two((10, 50), (13, 48), houses=(5, 2))), [(2, 5, 3), (5, 2, 2)])

    def test_not_joined(self):
        self.assertEqual(ties_of(two((10, 50), (13, 48), joined=False)), [(0, 1, 37), (1, 0, 3)])
        self.assertEqual(ties_of(two((10, 50), (13, 99), joined=False)), [(0, 1, 37), (1, 0, 3)])

    def test_below_nought(self):
        self.assertEqual(ties_of(two((10, 50), (7, 55))), [(0, 1, -5), (1, 0, -3)])
        self.assertEqual(ties_of(two((10, 50), (57, 58), joined=False)), [(0, 1, -7), (1, 0, 47)])

    def test_within_one_house(self):
        self.assertEqual(ties_of(two((10, 50), (13, 48), houses=(3, 3))), [(3, 3, 2)])
        self.assertEqual(ties_of(two((10, 50), (11, 48), houses=(3, 3))), [(3, 3, 1)])
        self.assertEqual(ties_of(two((10, 50), (13, 53), houses=(3, 3))), [(3, 3, -3)])
        self.assertEqual(ties_of(two((10, 50), (10, 50), houses=(3, 3))), [(3, 3, 0)])
        self.assertEqual(ties_of(two((10, 50), (13, 99), False, (3, 3))), [(3, 3, 3)])

    def test_the_least_most_of_several(self):
        heap = two((10, 50), (13, 48)) + [
            make(5, 0, house=1, count=7, begin=0, end=20),
            make(5, 1, 0, house=0, count=8, begin=1, end=19),
            make(6, 0, house=0, count=9, begin=0, end=100),
            make(6, 1, 0, house=1, count=9, begin=50, end=50, joined=True),
        ]
        # Run 5 brings (0, 1, 1) and (1, 0, 19), run 6 (1, 0, 50) and (0, 1, 50).
        self.assertEqual(ties_of(heap), [(0, 1, 1), (1, 0, 3)])
        self.assertEqual(ties_of(heap[2:]), [(0, 1, 1), (1, 0, 19)])
        self.assertEqual(ties_of(heap[4:]), [(0, 1, 50), (1, 0, 50)])

    def test_an_asker_that_is_not_there(self):
        heap = two((10, 50), (13, 48))
        self.assertEqual(ties_of(heap[1:]), [])
        elsewhere = [make(2, 0, house=0, begin=10, end=50)] + heap[1:]
        self.assertEqual(ties_of(elsewhere), [])

    def test_an_asker_of_its_own_run(self):
        heap = two((10, 50), (13, 48)) + [make(1, 0, house=2, begin=0, end=7), make(1, 1, 0, house=3, begin=1, end=2)]
        self.assertEqual(ties_of(heap), [(0, 1, 2), (1, 0, 3), (2, 3, 6), (3, 2, 1)])

    def test_pieces_that_ask_one_another_round(self):
        heap = [
            make(0, 1, 2, house=0, begin=0, end=10, joined=True),
            make(0, 2, 1, house=1, begin=3, end=9, joined=True),
        ]
        self.assertEqual(ties_of(heap), [(0, 1, -3), (1, 0, -1)])

    def test_rising(self):
        heap = counted([make(house=4, end=90)] + [
            make(0, number, 0, house=house, begin=number, end=20, joined=True)
            for number, house in enumerate((7, 0, 6, 2, 5, 1, 3), 1)
        ])
        ties = ties_of(heap)
        self.assertEqual(ties, sorted(ties))
        self.assertEqual(len(ties), 14)
        self.assertEqual(ties[:2], [(0, 4, 2), (1, 4, 6)])

    def test_clocks_far_apart(self):
        heap = two((-LONG, 5 - LONG), (LONG - 3, LONG))
        self.assertEqual(ties_of(heap), [(0, 1, 5 - 2 * LONG), (1, 0, 2 * LONG - 3)])
        heap = two((LONG - 3, LONG), (-LONG, LONG), joined=False)
        self.assertEqual(ties_of(heap), [(0, 1, 2 * LONG), (1, 0, 3 - 2 * LONG)])

    def test_kinds(self):
        ties = ties_of(two((10, 50), (13, 48)))
        self.assertIs(type(ties), list)
        for tie in ties:
            self.assertIs(type(tie), tuple)
            self.assertEqual([type(part) for part in tie], [int, int, int])

    def test_as_the_words_tell(self):
        chance = random.Random(90)
        for _ in range(300):
            heap = clocked_heap(chance, houses=chance.randrange(1, 8), wild=0.3)
            ties = sorted((y, x, most) for (y, x), most in ties_by_words(heap).items())
            self.assertEqual(ties_of(retold(chance, heap)), ties)

    def test_they_are_kept_just_where_each_piece_lies_within_its_asker(self):
        chance = random.Random(91)
        found = [0, 0]
        for _ in range(300):
            heap = clocked_heap(chance, runs=1, many=4, houses=2)
            ties = ties_of(heap)
            for by in range(-200, 201, 3):
                shifts = {0: 7, 1: 7 + by}
                kept = all(shifts[x] - shifts[y] <= most for y, x, most in ties)
                self.assertIs(kept, kept_by_words(heap, shifts))
                found[kept] += 1
        self.assertGreater(min(found), 1000)


class Shifts(unittest.TestCase):

    def shifts(self, heap):
        """The heap has shifts: check the rows that are told, and tell them."""
        kind, rows = shifts_of(heap)
        self.assertEqual(kind, "shifts")
        self.assertIs(type(shifts_of(heap)), tuple)
        self.assertIs(type(rows), list)
        self.assertEqual([type(row) for row in rows], [tuple] * len(rows))
        self.assertEqual([house for house, _ in rows], sorted({piece[3] for piece in heap}))
        for house, shift in rows:
            self.assertEqual((type(house), type(shift)), (int, int))
        self.assertTrue(kept_by_words(heap, dict(rows)))
        self.assertIs(are_shifts(heap, rows), True)
        return rows

    def ring(self, heap):
        """The heap has none: check the houses that are told, and tell them."""
        kind, houses = shifts_of(heap)
        self.assertEqual(kind, "ring")
        self.assertIs(type(shifts_of(heap)), tuple)
        self.assertIs(type(houses), tuple)
        self.assertEqual([type(house) for house in houses], [int] * len(houses))
        self.assertGreater(len(houses), 0)
        self.assertLess(come_to(ties_by_words(heap), houses + houses[:1]), 0)
        self.assertIs(is_ring(heap, houses), True)
        return houses

    def test_of_none(self):
        self.assertEqual(shifts_of([]), ("shifts", []))

    def test_of_houses_without_ties(self):
        self.shifts([make()])
        self.shifts([make(0, house=6), make(1, house=2), make(2, 5, 8, house=4, begin=-LONG)])

    def test_of_two_houses(self):
        for joined in (True, False):
            self.shifts(two((10, 50), (13, 48), joined))
            self.shifts(two((10, 50), (1013, 1053), joined))
            self.shifts(two((10, 50), (-1013, -973), joined))
            self.shifts(two((0, 5 * LONG), (-LONG, LONG), joined))

    def test_that_fit_in_one_way_alone(self):
        rows = self.shifts(two((10, 50), (110, 150)))
        self.assertEqual(rows[1][1] - rows[0][1], -100)
        rows = self.shifts(two((-LONG, 1 - LONG), (LONG - 1, LONG), houses=(7, 3)))
        self.assertEqual(rows[1][1] - rows[0][1], 2 * LONG - 1)

    def test_a_kid_too_long(self):
        self.assertEqual(sorted(self.ring(two((10, 50), (10, 51)))), [0, 1])
        self.assertEqual(sorted(self.ring(two((0, 0), (-LONG, LONG), houses=(2, 7)))), [2, 7])
        self.shifts(two((10, 50), (10, 51), joined=False))

    def test_a_ring_of_one_house(self):
        self.assertEqual(set(self.ring(two((10, 50), (9, 20), houses=(4, 4)))), {4})
        self.assertEqual(set(self.ring(two((10, 50), (20, 51), houses=(4, 4)))), {4})
        self.assertEqual(set(self.ring(two((10, 50), (51, 51), False, (4, 4)))), {4})
        self.shifts(two((10, 50), (50, 51), False, (4, 4)))
        self.shifts(two((10, 50), (10, 50), houses=(4, 4)))

    def test_a_ring_of_one_house_among_others(self):
        heap = two((10, 50), (9, 20), houses=(4, 4)) + [
            make(1, 0, house=1, count=5, end=900), make(1, 1, 0, house=4, count=5, begin=5, end=800),
            make(1, 2, 0, house=0, count=5, begin=5, end=800), make(1, 3, 2, house=4, count=6, begin=60, end=70),
        ]
        self.ring(heap)
        self.shifts(heap[1:])

    def test_rings_of_many_houses(self):
        for many in range(2, 9):
            mosts = [3 * at - 5 for at in range(many)]
            mosts[-1] -= sum(mosts)
            self.shifts(ring_heap(mosts))
            mosts[many // 2] -= 1
            self.assertEqual(sorted(self.ring(ring_heap(mosts))), list(range(many)))
            mosts[0] += 2
            self.shifts(ring_heap(mosts))

    def test_several_rings(self):
        for many in (3, 5, 8):
            pieces = ring_heap([-1] * many) + [moved(piece, 50) for piece in ring_heap([-3] * many)[::-1]]
            heap = counted([(99 - k // 2,) + piece[1:] for k, piece in enumerate(pieces)])
            self.ring(heap)

    def test_sixty_pieces(self):
        kind, told = shifts_of(sixty_pieces())
        self.assertEqual(kind, "ring")
        self.ring(sixty_pieces())
        heap = counted([
            moved(make(number // 10, number % 10, number % 10 - 1, number % 8, 0, number % 10, 30 - number % 10,
                       number % 10 > 0), 10 ** 28 * (number % 8))
            for number in range(60)
        ])
        self.shifts(heap)

    def test_never_both(self):
        chance = random.Random(100)
        found = [0, 0]
        for _ in range(400):
            heap = clocked_heap(chance, chance.randrange(1, 4), houses=chance.randrange(1, 8), wild=0.12)
            told = retold(chance, heap)
            if shifts_of(told)[0] == "shifts":
                self.shifts(told)
                found[0] += 1
            else:
                self.ring(told)
                found[1] += 1
        self.assertGreater(min(found), 100)

    def test_in_whatever_order_the_same_kind_is_told(self):
        chance = random.Random(101)
        for _ in range(60):
            heap = clocked_heap(chance, houses=3)
            kind = shifts_of(heap)[0]
            for _ in range(5):
                self.assertEqual(shifts_of(retold(chance, heap))[0], kind)


class AreShifts(unittest.TestCase):

    # House 2's shift less house 5's is from -103 to -98, house 7 has no tie.
    HEAP = two((10, 50), (113, 148), houses=(5, 2)) + [make(3, house=7)]
    ROWS = [(2, -100), (5, 0), (7, 4)]

    def yes(self, rows, heap=None):
        self.assertIs(are_shifts(self.HEAP if heap is None else heap, rows), True, rows)

    def no(self, thing, heap=None):
        self.assertIs(are_shifts(self.HEAP if heap is None else heap, thing), False)

    def test_moved_by_one_number(self):
        for by in (0, 1, -1, 77, LONG, -LONG, 10 ** 39):
            self.yes([(house, shift + by) for house, shift in self.ROWS])

    def test_to_a_ties_very_end_and_one_beyond(self):
        for shift in range(-103, -97):
            self.yes([(2, shift), (5, 0), (7, 4)])
        self.no([(2, -104), (5, 0), (7, 4)])
        self.no([(2, -97), (5, 0), (7, 4)])
        self.yes([(2, 0), (5, 103), (7, -9)])
        self.no([(2, 0), (5, 104), (7, -9)])
        self.no([(2, 0), (5, 97), (7, -9)])

    def test_a_house_without_ties_may_have_any(self):
        for shift in (0, -LONG, 10 ** 40 - 1):
            self.yes([(2, -100), (5, 0), (7, shift)])

    def test_a_row_left_out(self):
        for at in range(3):
            self.no(self.ROWS[:at] + self.ROWS[at + 1:])
        self.no([])

    def test_a_row_told_twice(self):
        for at in range(3):
            self.no(self.ROWS[:at] + self.ROWS[at:at + 1] + self.ROWS[at:])
        self.no(self.ROWS * 2)
        self.no([(2, -101)] + self.ROWS)

    def test_rows_exchanged(self):
        self.no(self.ROWS[::-1])
        self.no([self.ROWS[1], self.ROWS[0], self.ROWS[2]])
        self.no([self.ROWS[0], self.ROWS[2], self.ROWS[1]])

    def test_a_row_of_another_house(self):
        for house in (0, 1, 3, 4, 6, 8, -1, 99):
            self.no(sorted(self.ROWS + [(house, 0)]))
            self.no(sorted(self.ROWS[:2] + [(house, 0)]))

    def test_other_things_in_a_row(self):
        for at, (house, shift) in enumerate(self.ROWS):
            rows = [(thing, shift) for thing in NO_NUMBERS] + [(house, thing) for thing in NO_NUMBERS]
            rows += [[house, shift], (house,), (shift,), (), (house, shift, 0), (shift, house), ((house, shift),), house]
            for row in rows + list(NO_NUMBERS):
                self.no(self.ROWS[:at] + [row] + self.ROWS[at + 1:])

    def test_truths_are_no_houses_and_no_shifts(self):
        heap = [make(house=0), make(1, house=1)]
        self.yes([(0, 0), (1, 1)], heap)
        self.no([(False, 0), (1, 1)], heap)
        self.no([(0, 0), (True, 1)], heap)
        self.no([(0, False), (1, 1)], heap)
        self.no([(0, 0), (1, True)], heap)

    def test_lists_and_tuples_exchanged(self):
        self.no(tuple(self.ROWS))
        self.no([list(row) for row in self.ROWS])
        self.no(("shifts", self.ROWS))
        self.no([self.ROWS])

    def test_other_things(self):
        for thing in OTHER_THINGS:
            self.no(thing)
            self.no(thing, [make(house=3)])
            if thing != []:
                self.no(thing, [])

    def test_of_an_empty_heap(self):
        self.yes([], [])
        self.no([(0, 0)], [])
        self.no((), [])

    def test_of_a_heap_without_shifts(self):
        heap = two((10, 50), (10, 51))
        for by in range(-5, 6):
            self.no([(0, 0), (1, by)], heap)
        heap = two((10, 50), (9, 20), houses=(4, 4))
        self.no([(4, 0)], heap)

    def test_as_the_words_tell(self):
        chance = random.Random(102)
        found = [0, 0]
        for _ in range(400):
            heap = clocked_heap(chance, houses=3)
            kind, rows = shifts_of(heap)
            if kind == "ring":
                rows = [(house, 0) for house in sorted({piece[3] for piece in heap})]
            for _ in range(6):
                some = [(house, shift + chance.randrange(-3, 4)) for house, shift in rows]
                kept = kept_by_words(heap, dict(some))
                self.assertIs(are_shifts(retold(chance, heap), some), kept)
                found[kept] += 1
        self.assertGreater(min(found), 300)


class IsRing(unittest.TestCase):

    # The ties (0, 3, 4), (3, 1, -2), (1, 0, -3), and back wide ones.
    HEAP = counted([
        make(1, 0, house=3, end=90), make(1, 1, 0, house=0, begin=4, end=4),
        make(2, 0, house=1, end=90), make(2, 1, 0, house=3, begin=-2, end=0),
        make(3, 0, house=0, end=90), make(3, 1, 0, house=1, begin=-3, end=0),
        make(4, 0, house=6), make(5, 0, house=7, end=9), make(5, 1, 0, house=7, begin=2, end=10, joined=True),
    ])

    def yes(self, houses, heap=None):
        self.assertIs(is_ring(self.HEAP if heap is None else heap, houses), True, houses)

    def no(self, thing, heap=None):
        self.assertIs(is_ring(self.HEAP if heap is None else heap, thing), False)

    def test_turned(self):
        for houses in ((0, 3, 1), (3, 1, 0), (1, 0, 3)):
            self.yes(houses)

    def test_the_other_way_about(self):
        for houses in ((1, 3, 0), (3, 0, 1), (0, 1, 3)):
            self.no(houses)

    def test_twice_round(self):
        self.yes((0, 3, 1, 0, 3, 1))
        self.yes((3, 1, 0) * 3)
        self.yes((0, 3, 1) * 6000)

    def test_a_part_of_it_alone(self):
        for houses in ((0, 3), (3, 1), (1, 0), (0,), (1,), (3,)):
            self.no(houses)

    def test_a_house_twice_running(self):
        for houses in ((0, 3, 1, 0), (0, 0, 3, 1), (0, 3, 3, 1), (0, 3, 1, 1)):
            self.no(houses)

    def test_of_one_house(self):
        self.yes((7,))
        self.yes((7, 7))
        self.yes((7,) * 20000)
        self.no((6,))
        self.no((7, 6))
        self.no((6, 7))
        self.no((7, 0, 3, 1))

    def test_a_house_tied_to_itself_by_nought(self):
        heap = two((10, 50), (10, 50), houses=(4, 4))
        self.no((4,), heap)
        self.no((4, 4), heap)
        self.yes((4,), two((10, 50), (11, 51), houses=(4, 4)))
        self.no((4,), two((10, 50), (50, 51), False, (4, 4)))
        self.yes((4,), two((10, 50), (51, 51), False, (4, 4)))

    def test_to_nought_and_one_below(self):
        for mosts, below in (((5, -5), False), ((5, -6), True), ((-1, 0, 1), False), ((-1, 0, 0), True), ((9, 9), False)):
            houses = tuple(range(len(mosts)))
            self.assertIs(is_ring(ring_heap(mosts), houses), below)
            self.assertIs(is_ring(ring_heap(mosts), houses * 4), below)

    def test_of_none(self):
        self.no(())
        self.no((), [])
        self.no((0,), [])
        self.no((0, 1), [])
        self.no((), two((10, 50), (10, 51)))

    def test_truths_are_no_houses(self):
        heap = two((10, 50), (10, 51))
        self.yes((0, 1), heap)
        self.yes((1, 0), heap)
        for houses in ((False, 1), (0, True), (False, True), (True, 0)):
            self.no(houses, heap)

    def test_lists_are_none(self):
        self.no([0, 3, 1])
        self.no([(0, 3, 1)])
        self.no(((0, 3, 1),))
        self.no(("ring", (0, 3, 1)))

    def test_other_houses(self):
        for house in (2, 4, 5, 6, 8) + FAR_NUMBERS:
            for at in range(4):
                self.no((0, 3, 1)[:at] + (house,) + (0, 3, 1)[at:])
                self.no((0, 3, 1)[:at] + (house,) + (0, 3, 1)[at + 1:])
            self.no((house,))

    def test_other_things(self):
        for thing in OTHER_THINGS:
            self.no(thing)
            self.no(thing, [])
            for at in range(3):
                self.no((0, 3, 1)[:at] + (thing,) + (0, 3, 1)[at + 1:])

    def test_of_a_heap_with_shifts(self):
        heap = ring_heap([4, -2, -2])
        for houses in ((0, 1, 2), (1, 2, 0), (2, 1, 0), (0,), (0, 1), (1, 2)):
            self.no(houses, heap)

    def test_times_of_thirty_figures(self):
        heap = two((0, 2 * LONG - 1), (-LONG, LONG))
        self.yes((0, 1), heap)
        self.no((0, 1), two((0, 2 * LONG), (-LONG, LONG)))

    def test_as_the_words_tell(self):
        chance = random.Random(103)
        found = [0, 0]
        for _ in range(400):
            heap = clocked_heap(chance, houses=3, wild=0.3)
            ties = ties_by_words(heap)
            for _ in range(20):
                houses = tuple(chance.randrange(3) for _ in range(chance.randrange(1, 5)))
                try:
                    ring = come_to(ties, houses + houses[:1]) < 0
                except KeyError:
                    ring = False
                self.assertIs(is_ring(retold(chance, heap), houses), ring)
                found[ring] += 1
        self.assertGreater(min(found), 500)


class Clashes(unittest.TestCase):

    def test_a_heap_with_a_clash(self):
        low, high = make(house=2), make(1, house=2, end=4)
        heap = [high, make(5, house=4), low]
        for function in (ties_of, shifts_of):
            with self.assertRaises(Clash) as held:
                function(heap)
            self.assertEqual(held.exception.pair, (low, high))
        for function in (are_shifts, is_ring):
            for thing in OTHER_THINGS + ([(2, 0), (4, 0)], (2, 4)):
                with self.assertRaises(Clash) as held:
                    function(heap, thing)
                self.assertEqual(held.exception.pair, (low, high))


if __name__ == "__main__":
    unittest.main()
