"""Point 11: the span of two houses, what shows its most, and whether something shows it."""

import random
import unittest

from latewood.errors import Clash, NoHouse, NoShifts
from latewood.shifts import are_shifts, shifts_of
from latewood.spans import most_of, shows_most, span_of

from helpers import (
    FAR_NUMBERS, NO_NUMBERS, clocked_heap, come_to, counted, kept_by_words, make, mosts_by_steps, moved, nested, retold,
    ties_by_words,
)

LONG = 10 ** 30 - 1


def tied(ties):
    """A heap with just these ties (y, x, most) of unlike houses; each brings a wide one back."""
    pieces = []
    for run, (y, x, most) in enumerate(ties):
        pieces.append(make(run, 0, house=x, begin=0, end=10 ** 6))
        pieces.append(make(run, 1, 0, house=y, begin=most, end=most))
    return counted(pieces)


# Three houses by which house 0 comes to house 2 straight by 9, by house 1 by 3 + 4; house 5 has a top alone.
LINKED = tied([(0, 2, 9), (0, 1, 3), (1, 2, 4)]) + [make(40, 0, house=5)]


def houses_in(heap):
    return sorted({piece[3] for piece in heap})


class Spans(unittest.TestCase):

    def span(self, heap, one, other, least, most):
        self.assertEqual(span_of(heap, one, other), (least, most))
        self.assertIs(type(span_of(heap, one, other)), tuple)
        back = (None if most is None else -most, None if least is None else -least)
        self.assertEqual(span_of(heap, other, one), back)

    def test_both_ends(self):
        heap = [make(house=0, begin=10, end=50), make(0, 1, 0, house=1, begin=113, end=148, joined=True)]
        self.span(heap, 0, 1, -103, -98)
        heap = [make(house=6, begin=10, end=50), make(0, 1, 0, house=3, begin=113, end=999)]
        self.span(heap, 6, 3, -103, -63)

    def test_no_end(self):
        heap = [make(house=0), make(1, house=1), make(2, house=7)]
        self.span(heap, 0, 1, None, None)
        self.span(heap, 1, 7, None, None)

    def test_houses_of_two_parts(self):
        heap = counted([
            make(0, 0, house=0, end=9), make(0, 1, 0, house=1, begin=5, end=9, joined=True),
            make(1, 0, house=2, end=9), make(1, 1, 0, house=3, begin=2, end=5, joined=True),
        ])
        self.span(heap, 0, 1, -5, 0)
        self.span(heap, 2, 3, -2, 4)
        for one in (0, 1):
            for other in (2, 3):
                self.span(heap, one, other, None, None)

    def test_one_number_alone(self):
        heap = [make(house=2, begin=-LONG, end=-LONG), make(0, 1, 0, house=7, begin=LONG, end=LONG, joined=True)]
        self.span(heap, 2, 7, -2 * LONG, -2 * LONG)

    def test_by_other_houses(self):
        self.span(LINKED, 0, 2, -10 ** 6 + 9, 7)
        self.span(LINKED, 0, 1, -10 ** 6 + 9 - 4, 3)
        self.span(LINKED, 1, 2, -10 ** 6 + 9 - 3, 4)
        self.span(LINKED, 0, 5, None, None)

    def test_round_all_houses(self):
        heap = tied([(house, house + 1, house) for house in range(7)])
        for one in range(8):
            for other in range(one + 1, 8):
                self.assertEqual(span_of(heap, one, other)[1], sum(range(one, other)))

    def test_below_nought_on_the_way(self):
        heap = tied([(0, 1, -50), (1, 2, 70), (0, 2, 21), (2, 3, -5), (0, 3, 14)])
        self.assertEqual(span_of(heap, 0, 2)[1], 20)
        self.assertEqual(span_of(heap, 0, 3)[1], 14)
        self.assertEqual(span_of(heap, 0, 1)[1], -50)

    def test_as_brute_force_tells(self):
        chance = random.Random(110)
        found = 0
        for _ in range(250):
            heap = clocked_heap(chance, chance.randrange(1, 3), many=4, houses=3, wild=0.05)
            heap = [piece[:5] + (piece[5] % 5, piece[5] % 5 + min(5, piece[6] - piece[5]), piece[7]) for piece in heap]
            if houses_in(heap) != [0, 1, 2]:
                continue
            # Ties of so small times end no span beyond 20 that they end at all.
            apart = [
                (first, second) for first in range(-30, 31) for second in range(-30, 31)
                if kept_by_words(heap, {0: 0, 1: first, 2: second})
            ]
            if not apart:
                self.assertRaises(NoShifts, span_of, heap, 0, 1)
                continue
            found += 1
            for other, seen in ((1, {first for first, _ in apart}), (2, {second for _, second in apart})):
                low, high = min(seen), max(seen)
                told = span_of(heap, 0, other)
                self.assertEqual(told, (None if low < -20 else low, None if high > 20 else high))
        self.assertGreater(found, 20)

    def test_as_the_ties_tell(self):
        chance = random.Random(111)
        found = {None: 0, True: 0}
        for _ in range(250):
            heap = clocked_heap(chance, chance.randrange(1, 4), many=4, houses=chance.randrange(2, 9), wild=0.04)
            if shifts_of(heap)[0] == "ring":
                continue
            for one in houses_in(heap):
                mosts = mosts_by_steps(heap, one)
                for other in houses_in(heap):
                    if other == one:
                        continue
                    least = mosts_by_steps(heap, other).get(one)
                    told = span_of(retold(chance, heap), one, other)
                    self.assertEqual(told, (None if least is None else -least, mosts.get(other)))
                    found[None if told[1] is None else True] += 1
        self.assertGreater(min(found.values()), 200)

    def test_no_shifts_go_beyond_it(self):
        chance = random.Random(112)
        for _ in range(100):
            heap = clocked_heap(chance, houses=3, wild=0.0)
            rows = shifts_of(heap)[1]
            for _ in range(20):
                some = [(house, shift + chance.randrange(-6, 7)) for house, shift in rows]
                if not are_shifts(heap, some):
                    continue
                for one, first in some:
                    for other, second in some:
                        if one != other:
                            least, most = span_of(heap, one, other)
                            self.assertTrue(least is None or least <= second - first)
                            self.assertTrue(most is None or second - first <= most)


class Mosts(unittest.TestCase):

    def most(self, heap, one, other):
        """Check what is told to show the most, and tell it."""
        told = most_of(heap, one, other)
        self.assertIs(type(told), tuple)
        most, houses, rows = told
        self.assertEqual(most, span_of(heap, one, other)[1])
        self.assertEqual(most, -span_of(heap, other, one)[0])
        self.assertIs(type(houses), tuple)
        self.assertEqual((houses[0], houses[-1]), (one, other))
        self.assertEqual([type(house) for house in houses], [int] * len(houses))
        self.assertEqual(come_to(ties_by_words(heap), houses), most)
        self.assertIs(shows_most(heap, one, other, most, houses), True)
        self.assertIs(type(rows), list)
        self.assertEqual([house for house, _ in rows], houses_in(heap))
        self.assertEqual([type(row) for row in rows], [tuple] * len(rows))
        self.assertTrue(kept_by_words(heap, dict(rows)))
        self.assertIs(are_shifts(heap, rows), True)
        self.assertEqual(dict(rows)[other] - dict(rows)[one], most)
        return told

    def test_straight(self):
        heap = [make(house=0, begin=10, end=50), make(0, 1, 0, house=1, begin=113, end=148, joined=True)]
        self.assertEqual(self.most(heap, 0, 1)[:2], (-98, (0, 1)))
        self.assertEqual(self.most(heap, 1, 0)[:2], (103, (1, 0)))

    def test_by_other_houses(self):
        self.assertEqual(self.most(LINKED, 0, 2)[:2], (7, (0, 1, 2)))
        self.assertEqual(self.most(LINKED, 0, 1)[:2], (3, (0, 1)))
        self.assertEqual(self.most(LINKED, 1, 2)[:2], (4, (1, 2)))

    def test_by_all_houses(self):
        heap = tied([(7, 3, -1), (3, 5, 20), (5, 0, -4), (0, 1, 6), (1, 6, 0), (6, 4, 3), (4, 2, 9), (7, 2, 34)])
        self.assertEqual(self.most(heap, 7, 2)[:2], (33, (7, 3, 5, 0, 1, 6, 4, 2)))

    def test_none_where_there_is_no_most(self):
        for one, other in ((0, 5), (5, 0), (1, 5), (5, 2)):
            self.assertIsNone(most_of(LINKED, one, other))

    def test_a_house_tied_to_itself(self):
        heap = counted(LINKED + [make(50, 0, house=1, begin=0, end=0), make(50, 1, 0, house=1, joined=True)])
        self.most(heap, 0, 1)
        self.most(heap, 1, 2)

    def test_rows_beside_that_are_not_reached(self):
        # Each other house is far ahead or far behind by ties of its own.
        heap = counted(LINKED + [
            make(50, 0, house=6, begin=-LONG, end=-LONG), make(50, 1, 0, house=7, begin=LONG, end=LONG, joined=True),
        ])
        for one, other in ((0, 2), (2, 0), (6, 7), (7, 6)):
            self.most(heap, one, other)
        self.assertIsNone(most_of(heap, 0, 6))

    def test_clocks_far_apart(self):
        heap = [moved(piece, (-1) ** piece[3] * (LONG // (piece[3] + 1))) for piece in LINKED]
        for one in range(3):
            for other in range(3):
                if one != other:
                    self.most(heap, one, other)

    def test_random_heaps(self):
        chance = random.Random(113)
        found = [0, 0]
        for _ in range(250):
            heap = clocked_heap(chance, chance.randrange(1, 4), many=4, houses=chance.randrange(2, 9), wild=0.04)
            if len(houses_in(heap)) < 2:
                continue
            one, other = chance.sample(houses_in(heap), 2)
            heap = retold(chance, heap)
            if shifts_of(heap)[0] == "ring":
                self.assertRaises(NoShifts, most_of, heap, one, other)
                continue
            found[other in mosts_by_steps(heap, one)] += 1
            if other in mosts_by_steps(heap, one):
                self.most(heap, one, other)
            else:
                self.assertIsNone(most_of(heap, one, other))
        self.assertGreater(min(found), 30)


class Showing(unittest.TestCase):

    def shows(self, heap, houses, most):
        """These houses show the most and each number above it, and none below."""
        for number in (most, most + 1, most + 1000, 10 ** 39):
            self.assertIs(shows_most(heap, houses[0], houses[-1], number, houses), True)
        for number in (most - 1, most - 1000, -10 ** 39):
            self.assertIs(shows_most(heap, houses[0], houses[-1], number, houses), False)

    def no(self, one, other, thing, number=10 ** 39, heap=None):
        self.assertIs(shows_most(LINKED if heap is None else heap, one, other, number, thing), False)

    def test_ties_that_come_to_the_number(self):
        self.shows(LINKED, (0, 1, 2), 7)
        self.shows(LINKED, (0, 2), 9)
        self.shows(LINKED, (1, 2), 4)
        self.shows(LINKED, (2, 0), 10 ** 6 - 9)
        self.shows(LINKED, (2, 1, 0), 2 * 10 ** 6 - 7)

    def test_houses_come_to_again(self):
        self.shows(LINKED, (0, 1, 0, 1, 2), 7 + 3 + 10 ** 6 - 3)
        self.shows(LINKED, (0, 2, 0, 2), 9 + 10 ** 6)
        self.shows(LINKED, (0, 2, 1, 2), 9 + 10 ** 6)

    def test_a_house_tied_to_itself(self):
        heap = counted(LINKED + [make(50, 0, house=1, begin=0, end=9), make(50, 1, 0, house=1, begin=2, end=9)])
        self.shows(heap, (0, 1, 1, 2), 9)
        self.shows(heap, (0, 1, 1, 1, 2), 11)
        self.no(0, 2, (0, 0, 2), heap=heap)
        self.no(0, 2, (0, 2, 2), heap=heap)

    def test_of_a_heap_without_shifts(self):
        heap = tied([(0, 1, 3), (1, 2, -8), (2, 0, 4)])
        self.assertEqual(shifts_of(heap)[0], "ring")
        self.shows(heap, (0, 1), 3)
        self.shows(heap, (0, 1, 2), -5)
        self.shows(heap, (0, 1, 2, 0, 1, 2), -6)
        self.shows(heap, (2, 0, 1), 7)
        self.no(0, 2, (0, 1), heap=heap)

    def test_other_ends(self):
        for houses in ((0, 1), (1, 2), (2, 1, 0), (2, 0), (1, 0, 1, 2), (0, 1, 2, 1), (0, 1, 2, 0)):
            self.no(0, 2, houses)

    def test_too_short(self):
        for houses in ((), (0,), (2,)):
            self.no(0, 2, houses)

    def test_houses_that_are_not_tied(self):
        for houses in ((0, 5, 2), (0, 0, 2), (0, 2, 2), (0, 1, 1, 2), (0, 4, 2), (0, 99, 2), (0, -1, 2), (0, 10 ** 39, 2)):
            self.no(0, 2, houses)
        self.no(0, 5, (0, 5))
        self.no(5, 1, (5, 1))

    def test_truths_are_no_houses(self):
        self.no(0, 2, (False, 1, 2))
        self.no(0, 2, (0, True, 2))
        self.no(0, 1, (0, True))
        self.no(1, 2, (True, 2))

    def test_other_things(self):
        things = NO_NUMBERS + FAR_NUMBERS + (
            [0, 1, 2], [(0, 1, 2)], ((0, 1, 2),), (0, [1], 2), (0, (1,), 2), (0, "1", 2), (0, None, 2), "012",
            (7, (0, 1, 2), []), nested(20), nested(20, list), (0,) * 20000, (0,) + ([],) * 9 + (2,),
        )
        for thing in things:
            self.no(0, 2, thing)
            self.no(2, 0, thing)
        self.shows(LINKED, (0,) + (1, 0) * 9000 + (2,), 9 + 9000 * 10 ** 6)

    def test_as_the_words_tell(self):
        chance = random.Random(114)
        found = [0, 0]
        for _ in range(300):
            heap = clocked_heap(chance, houses=3, wild=0.1)
            if houses_in(heap) != [0, 1, 2]:
                continue
            ties = ties_by_words(heap)
            for _ in range(20):
                houses = tuple(chance.randrange(3) for _ in range(chance.randrange(2, 6)))
                one, other = chance.sample(range(3), 2)
                try:
                    most = come_to(ties, houses)
                except KeyError:
                    most = None
                number = (most or 0) + chance.randrange(-1, 2)
                fits = most is not None and (houses[0], houses[-1]) == (one, other) and most <= number
                self.assertIs(shows_most(retold(chance, heap), one, other, number, houses), fits)
                found[fits] += 1
        self.assertGreater(min(found), 100)


class Refusals(unittest.TestCase):

    def refused(self, cls, function, *things):
        with self.assertRaises(cls, msg=things[1:]) as held:
            function(*things)
        self.assertIs(type(held.exception), cls)

    def no_house(self, heap, one, other):
        self.refused(NoHouse, span_of, heap, one, other)
        self.refused(NoHouse, most_of, heap, one, other)
        for thing in ((one, other), (0, 1), None, [0]):
            self.refused(NoHouse, shows_most, heap, one, other, 10 ** 39, thing)

    def heaps(self):
        """Heaps of the houses 0, 1 and 2, with shifts and without."""
        return LINKED[:6], tied([(0, 1, 3), (1, 2, -8), (2, 0, 4)])

    def test_houses_alike(self):
        for heap in self.heaps():
            for house in (0, 1, 2):
                self.no_house(heap, house, house)

    def test_houses_not_in_the_heap(self):
        for heap in self.heaps():
            for thing in (3, 4, 5, 6, 7, 8, 9) + FAR_NUMBERS:
                for house in (0, 1, 2, 7, thing):
                    self.no_house(heap, house, thing)
                    self.no_house(heap, thing, house)
        self.no_house([], 0, 1)

    def test_no_houses(self):
        for heap in self.heaps():
            for thing in NO_NUMBERS + (nested(20), nested(20, list), [0] * 20000):
                for house in (0, 1, 2, thing):
                    self.no_house(heap, house, thing)
                    self.no_house(heap, thing, house)

    def test_no_shifts(self):
        heaps = [
            self.heaps()[1],
            LINKED + counted([make(90, 0, house=3, begin=5, end=9), make(90, 1, 0, house=3, begin=4, end=9)]),
            LINKED + [make(90, 0, house=3, end=1), make(90, 1, 0, house=4, count=1, end=2, joined=True)],
        ]
        for heap in heaps:
            for one in (0, 1, 2):
                for other in (0, 1, 2):
                    if one != other:
                        self.refused(NoShifts, span_of, heap, one, other)
                        self.refused(NoShifts, most_of, heap, one, other)
        self.refused(NoShifts, span_of, heaps[2], 0, 5)
        self.refused(NoShifts, most_of, heaps[2], 0, 5)

    def test_clash_ahead_of_all(self):
        low, high = make(90, 1, house=2, count=900), make(90, 1, house=3, count=901)
        for heap in self.heaps():
            heap = [high] + heap + [low]
            for one, other in ((0, 1), (0, 0), (9, 1), (True, None), ([], 2)):
                for function, more in ((span_of, ()), (most_of, ()), (shows_most, (7, None)), (shows_most, (7, (0, 1)))):
                    with self.assertRaises(Clash) as held:
                        function(heap, one, other, *more)
                    self.assertEqual(held.exception.pair, (low, high))


if __name__ == "__main__":
    unittest.main()
