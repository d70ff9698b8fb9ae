"""Point 19: shapes of runs, runs held against one another, and whether something is pairs of theirs."""

import random
import unittest
from itertools import permutations

from latewood.errors import Clash, NoRun, NotWhole
from latewood.shapes import are_pairs, shape_of, shapes_held

from helpers import (
    FAR_NUMBERS, NO_NUMBERS, asking, counted, make, nested, renumbered, retold, whole_run,
)


def shape_by_words(pieces, whose):
    """The shape of a piece, by what point 19 says, apart from the program."""
    kids = sorted(shape_by_words(pieces, one) for one in pieces if one[2] == whose[1])
    shape = f"{whose[3]}{'j' if whose[7] else 'u'}"
    return f"{shape}({','.join(kids)})" if kids else shape


def shapes_by_words(heap, run):
    """The shapes of all pieces of a run, sorted."""
    mine = sorted(one for one in set(heap) if one[0] == run)
    return sorted(shape_by_words(mine, one) for one in mine)


def pair_up(heap, one, other, pairs):
    """Whether these (number, number), each number once, pair two runs, by what point 19 says."""
    first = {piece[1]: piece for piece in heap if piece[0] == one}
    second = {piece[1]: piece for piece in heap if piece[0] == other}
    for number, partner in pairs:
        mine, its = first[number], second[partner]
        if (mine[3], mine[7]) != (its[3], its[7]):
            return False
        if (mine[2] == -1) != (its[2] == -1):
            return False
        if mine[2] != -1 and (mine[2], its[2]) not in pairs:
            return False
    return True


def all_pairs(heap, one, other):
    """All pairs of two runs of few pieces, by trying all."""
    numbers = sorted({piece[1] for piece in heap if piece[0] == one})
    partners = sorted({piece[1] for piece in heap if piece[0] == other})
    if len(numbers) != len(partners):
        return []
    tried = [list(zip(numbers, order)) for order in permutations(partners)]
    return [pairs for pairs in tried if pair_up(heap, one, other, pairs)]


def run_of(rows, run=0):
    """A run of pieces (number, asker, house, joined)."""
    return [make(run, number, asker, house, joined=joined) for number, asker, house, joined in rows]


# A top with two like kids, one kid that is like them but for its own kid, and one that isn't joined.
ROWS = [(0, -1, 3, False), (1, 0, 2, True), (2, 0, 2, True), (3, 0, 2, True), (4, 3, 5, True), (5, 0, 2, False)]

# The same with other numbers.
OTHERS = [(9, -1, 3, False), (8, 9, 2, True), (2, 9, 2, False), (0, 9, 2, True), (4, 9, 2, True), (1, 4, 5, True)]


class Shapes(unittest.TestCase):

    def told(self, heap, shape, run=0):
        heap = counted(heap)
        apart = [one[:4] + (one[4] + 500,) + one[5:] for one in counted(asking({0: 9, 9: 0, 3: 9}, run + 1))]
        for pieces in (heap, heap[::-1] * 2, heap + apart, apart + heap):
            self.assertEqual(shape_of(pieces, run), shape)
            self.assertIs(type(shape_of(pieces, run)), str)

    def test_of_a_single_top(self):
        for house in range(8):
            self.told([make(house=house)], f"{house}u")
            self.told([make(44, 99, house=house, begin=-3, end=7)], f"{house}u", 44)

    def test_of_kids(self):
        self.told(run_of([(0, -1, 3, False), (1, 0, 2, True)]), "3u(2j)")
        self.told(run_of([(0, -1, 3, False), (1, 0, 2, False)]), "3u(2u)")
        self.told(run_of([(5, -1, 0, False), (1, 5, 7, True), (0, 5, 0, False)]), "0u(0u,7j)")

    def test_of_kids_of_kids(self):
        self.told(run_of([(0, -1, 3, False), (1, 0, 2, True), (2, 1, 2, False)]), "3u(2j(2u))")
        self.told(run_of([(0, -1, 1, False), (1, 0, 4, True), (2, 1, 6, False), (3, 1, 5, True)]), "1u(4j(5j,6u))")
        self.told(run_of(ROWS), "3u(2j,2j,2j(5j),2u)")
        self.told(run_of(OTHERS), "3u(2j,2j,2j(5j),2u)")

    def test_of_like_kids_in_any_order(self):
        rows = [(0, 1, False), (1, 1, True), (0, 1, True), (1, 0, False)]
        for order in permutations(rows):
            self.told(
                run_of([(0, -1, 0, False)] + [(at + 1, 0, 2 + house, joined) for at, (_, house, joined) in enumerate(order)]),
                "0u(2u,3j,3j,3u)")

    def test_sorted_as_texts(self):
        # "(" and ")" stand ahead of ",", this ahead of figures, and these ahead of letters.
        run = run_of([
            (0, -1, 0, False), (1, 0, 1, False), (2, 0, 1, True), (3, 2, 7, True), (4, 0, 1, True), (5, 0, 1, True),
            (6, 5, 7, True), (7, 5, 0, True), (8, 0, 0, False), (9, 0, 1, True), (10, 9, 7, True), (11, 9, 7, True),
            (12, 0, 1, True), (13, 12, 7, True), (14, 13, 0, True),
        ])
        self.told(run, "0u(0u,1j,1j(0j,7j),1j(7j(0j)),1j(7j),1j(7j,7j),1u)")

    def test_times_and_counts_make_no_difference(self):
        run = run_of(ROWS)
        self.told([one[:5] + (at, 10 ** 29 + at, one[7]) for at, one in enumerate(run)], "3u(2j,2j,2j(5j),2u)")
        # Not right, but whole.
        self.told([one[:5] + (-at, -at, one[7]) for at, one in enumerate(run)], "3u(2j,2j,2j(5j),2u)")

    def test_sixty_each_asked_by_the_last(self):
        run = [make()] + [make(0, k, k - 1, k % 8, joined=k % 3 == 0) for k in range(1, 60)]
        shape = "".join(f"({k % 8}{'j' if k % 3 == 0 else 'u'}" for k in range(1, 60))
        self.told(run, "0u" + shape + ")" * 59)

    def test_sixty_asked_by_the_last_ones(self):
        run = [make()] + [make(0, k, (k - 1) // 2, (k % 2), joined=True) for k in range(1, 60)]
        self.told(run, shape_by_words(run, run[0]))

    def test_a_hundred_pieces_deep(self):
        run = [make()] + [make(0, k, k - 1, joined=True) for k in range(1, 100)]
        self.told(run, "0u" + "(0j" * 99 + ")" * 99)

    def test_as_the_words_tell(self):
        chance = random.Random(190)
        for _ in range(300):
            run = whole_run(chance, 7, chance.randrange(1, 20), chance.randrange(1, 9))
            self.told(run, shape_by_words(run, run[0]), 7)


class Held(unittest.TestCase):

    def alike(self, heap, one, other):
        for pieces in (heap, heap[::-1] * 2):
            told = shapes_held(pieces, one, other)
            self.assertIs(type(told), tuple)
            kind, pairs = told
            self.assertEqual(kind, "alike")
            self.assertIs(type(pairs), list)
            self.assertTrue(all(type(pair) is tuple and len(pair) == 2 for pair in pairs))
            self.assertEqual([number for number, _ in pairs], sorted({piece[1] for piece in heap if piece[0] == one}))
            self.assertEqual(sorted(partner for _, partner in pairs), sorted({
                piece[1] for piece in heap if piece[0] == other
            }))
            self.assertTrue(pair_up(heap, one, other, pairs))
            self.assertIs(are_pairs(pieces, one, other, pairs), True)

    def unlike(self, heap, one, other):
        for pieces in (heap, heap[::-1] * 2):
            told = shapes_held(pieces, one, other)
            self.assertIs(type(told), tuple)
            kind, shape, many, its_many = told
            self.assertEqual(kind, "unlike")
            self.assertNotEqual(many, its_many)
            self.assertEqual(many, shapes_by_words(heap, one).count(shape))
            self.assertEqual(its_many, shapes_by_words(heap, other).count(shape))

    def test_alike_with_like_kids_put_otherwise(self):
        heap = counted(run_of(ROWS, 3) + run_of(OTHERS, 8))
        self.alike(heap, 3, 8)
        self.alike(heap, 8, 3)

    def test_a_run_with_itself(self):
        self.alike(counted(run_of(ROWS)), 0, 0)
        self.alike([make(5, 7)], 5, 5)

    def test_tops_alone(self):
        heap = counted([make(5, 7), make(6, 0), make(7, 7, house=1)])
        self.alike(heap, 5, 6)
        self.unlike(heap, 5, 7)
        self.unlike(heap, 7, 6)
        self.assertEqual(shapes_held(heap, 5, 6), ("alike", [(7, 0)]))

    def test_unlike_by_one_house(self):
        for at in range(6):
            others = [row if row[0] != at else (row[0], row[1], row[2] + 1, row[3]) for row in ROWS]
            heap = counted(run_of(ROWS, 3) + run_of(others, 8))
            self.unlike(heap, 3, 8)
            self.unlike(heap, 8, 3)

    def test_unlike_by_one_joined(self):
        for at in range(1, 6):
            others = [row if row[0] != at else (row[0], row[1], row[2], not row[3]) for row in ROWS]
            heap = counted(run_of(ROWS, 3) + run_of(others, 8))
            self.unlike(heap, 3, 8)
            self.unlike(heap, 8, 3)

    def test_unlike_by_one_asker(self):
        for number, asker in ((1, 2), (1, 3), (1, 4), (2, 5), (4, 5), (4, 0), (5, 3), (3, 1)):
            others = [row if row[0] != number else (number, asker, row[2], row[3]) for row in ROWS]
            heap = counted(run_of(ROWS, 3) + run_of(others, 8))
            self.unlike(heap, 3, 8)
            self.unlike(heap, 8, 3)
        # The asker is another one, and yet they are alike: of 1 and 2, which are like kids, one asks.
        others = [row if row[0] != 4 else (4, 1, row[2], row[3]) for row in ROWS]
        self.alike(counted(run_of(ROWS, 3) + run_of(others, 8)), 3, 8)

    def test_unlike_by_a_piece_more(self):
        for asker in range(6):
            heap = counted(run_of(ROWS, 3) + run_of(ROWS + [(6, asker, 2, True)], 8))
            self.unlike(heap, 3, 8)
            self.unlike(heap, 8, 3)

    def test_one_within_the_other(self):
        # The shape of the one's top is once in both.
        inner = [(0, -1, 2, False), (1, 0, 2, True)]
        outer = [(5, -1, 2, False), (0, 5, 2, False), (1, 0, 2, True)]
        heap = counted(run_of(inner, 3) + run_of(outer, 8))
        self.unlike(heap, 3, 8)
        self.unlike(heap, 8, 3)

    def test_like_houses_asked_otherwise(self):
        flat = [(0, -1, 0, False), (1, 0, 1, True), (2, 0, 1, True), (3, 1, 2, True), (4, 2, 2, True)]
        bent = [(0, -1, 0, False), (1, 0, 1, True), (2, 0, 1, True), (3, 1, 2, True), (4, 1, 2, True)]
        heap = counted(run_of(flat, 3) + run_of(bent, 8))
        self.unlike(heap, 3, 8)
        self.alike(heap, 3, 3)

    def test_times_make_no_difference(self):
        heap = run_of(ROWS, 3) + [one[:5] + (-40 + at, 90 * at, one[7]) for at, one in enumerate(run_of(OTHERS, 8))]
        self.alike(counted(heap), 3, 8)

    def test_runs_of_thirty(self):
        chance = random.Random(191)
        for many in (30, 29):
            first = whole_run(chance, 3, many, 1, 1.0)
            heap = counted(first + renumbered(chance, first, 8))
            self.alike(heap, 3, 8)
            heap = counted([make(4)] + [make(4, k, k - 1, joined=True) for k in range(1, many)] + first)
            self.unlike(heap, 3, 4)

    def test_by_trying_all_pairs(self):
        chance = random.Random(192)
        found = {"alike": 0, "unlike": 0}
        for _ in range(400):
            first = whole_run(chance, 3, chance.randrange(1, 7), 2)
            second = renumbered(chance, first, 8) if chance.random() < 0.6 else whole_run(chance, 8, len(first), 1)
            if chance.random() < 0.3:
                second = [one[:3] + (chance.choice((one[3], 1 - one[3])),) + one[4:] for one in second]
            heap = retold(chance, counted(first + second))
            every = all_pairs(heap, 3, 8)
            kind = "alike" if every else "unlike"
            self.assertEqual(shapes_held(heap, 3, 8)[0], kind)
            found[kind] += 1
            if every:
                self.alike(heap, 3, 8)
                self.alike(heap, 8, 3)
                for pairs in every[:9]:
                    self.assertIs(are_pairs(heap, 3, 8, pairs), True)
            else:
                self.unlike(heap, 3, 8)
                self.unlike(heap, 8, 3)
            self.assertEqual(every != [], shape_of(heap, 3) == shape_of(heap, 8))
        self.assertGreater(min(found.values()), 80)

    def test_what_is_told_is_new(self):
        heap = counted(run_of(ROWS, 3) + run_of(OTHERS, 8))
        before = list(heap)
        first, second = shapes_held(heap, 3, 8)[1], shapes_held(heap, 3, 8)[1]
        self.assertIsNot(first, second)
        first.clear()
        self.assertTrue(pair_up(heap, 3, 8, second))
        self.assertEqual(len(second), 6)
        self.alike(heap, 3, 8)
        self.assertEqual(heap, before)

    def test_by_names(self):
        heap = counted(run_of(ROWS, 3) + run_of(OTHERS, 8))
        self.assertEqual(shape_of(run=3, heap=heap), shape_of(heap, 3))
        kind, pairs = shapes_held(other=8, one=3, heap=heap)
        self.assertEqual(kind, "alike")
        self.assertIs(are_pairs(thing=pairs, other=8, one=3, heap=heap), True)
        self.assertIs(are_pairs(thing=pairs, other=3, one=8, heap=heap), False)


class Pairs(unittest.TestCase):

    HEAP = counted(run_of(ROWS, 3) + run_of(OTHERS, 8) + run_of([(0, -1, 3, False), (1, 0, 2, True)], 5))
    # 1 and 2 are paired with 0 and 8, either way.
    GOOD = [(0, 9), (1, 0), (2, 8), (3, 4), (4, 1), (5, 2)]

    def told(self, thing, so, one=3, other=8):
        for pieces in (self.HEAP, self.HEAP[::-1] * 2):
            self.assertIs(are_pairs(pieces, one, other, thing), so, repr(thing)[:99])

    def test_pairs(self):
        self.told(self.GOOD, True)
        self.told([(0, 9), (1, 8), (2, 0), (3, 4), (4, 1), (5, 2)], True)
        self.told(shapes_held(self.HEAP, 3, 8)[1], True)

    def test_a_run_with_itself(self):
        same = [(k, k) for k in range(6)]
        self.told(same, True, 3, 3)
        self.told([(0, 0), (1, 2), (2, 1)] + same[3:], True, 3, 3)
        self.told([(0, 0), (1, 3), (2, 2), (3, 1)] + same[4:], False, 3, 3)

    def test_partners_exchanged(self):
        numbers = [partner for _, partner in self.GOOD]
        right = 0
        for order in permutations(numbers):
            thing = list(zip(range(6), order))
            so = order[0] == 9 and order[3:] == (4, 1, 2)
            self.told(thing, so)
            right += so
        self.assertEqual(right, 2)

    def test_a_pair_less_or_told_twice(self):
        for at in range(6):
            self.told(self.GOOD[:at] + self.GOOD[at + 1:], False)
            self.told(self.GOOD[:at + 1] + self.GOOD[at:], False)
            self.told(self.GOOD + [self.GOOD[at]], False)
        self.told([], False)
        self.told(self.GOOD * 2, False)

    def test_a_piece_paired_twice(self):
        self.told([(0, 9), (1, 0), (2, 0), (3, 4), (4, 1), (5, 2)], False)
        self.told([(0, 9), (1, 0), (1, 8), (3, 4), (4, 1), (5, 2)], False)
        self.told(self.GOOD[:2] + [(1, 8)] + self.GOOD[2:], False)

    def test_turned_about(self):
        turned = sorted((partner, number) for number, partner in self.GOOD)
        self.told(turned, False)
        self.told([(partner, number) for number, partner in self.GOOD], False)
        self.told(turned, True, 8, 3)
        self.told(self.GOOD, False, 8, 3)

    def test_in_another_order(self):
        for at in range(5):
            thing = list(self.GOOD)
            thing[at], thing[at + 1] = thing[at + 1], thing[at]
            self.told(thing, False)
        self.told(self.GOOD[::-1], False)

    def test_another_number(self):
        for at in range(6):
            number, partner = self.GOOD[at]
            for other in FAR_NUMBERS + (7, 6, 50, 3):
                self.told(self.GOOD[:at] + [(number, other)] + self.GOOD[at + 1:], other == partner)
                self.told(self.GOOD[:at] + [(other, partner)] + self.GOOD[at + 1:], other == number)
        self.told(self.GOOD + [(6, 7)], False)

    def test_other_things_for_numbers(self):
        for at in range(6):
            number, partner = self.GOOD[at]
            for other in NO_NUMBERS + (nested(20), nested(20, list)):
                self.told(self.GOOD[:at] + [(number, other)] + self.GOOD[at + 1:], False)
                self.told(self.GOOD[:at] + [(other, partner)] + self.GOOD[at + 1:], False)
                self.told(self.GOOD[:at] + [other] + self.GOOD[at + 1:], False)
            for other in (
                    [number, partner], (number,), (number, partner, 0), (number, partner, None), ((number, partner),),
                    [(number, partner)], str(number) + str(partner), None):
                self.told(self.GOOD[:at] + [other] + self.GOOD[at + 1:], False)

    def test_truths_for_numbers(self):
        self.told([(False, 9)] + self.GOOD[1:], False)
        self.told([(0, 9), (True, 0)] + self.GOOD[2:], False)
        self.told([(0, 9), (1, False)] + self.GOOD[2:], False)
        self.told(self.GOOD[:4] + [(4, True)] + self.GOOD[5:], False)

    def test_no_list(self):
        things = NO_NUMBERS + FAR_NUMBERS + (tuple(self.GOOD), "alike", nested(20), nested(20, list), (0,) * 20000)
        for thing in things + ([(0, 9)] * 6600, [[]] * 9000, ("alike", self.GOOD), ["alike", self.GOOD], [self.GOOD]):
            self.told(thing, False)

    def test_of_unlike_runs(self):
        for thing in ([(0, 9), (1, 0)], self.GOOD, [(0, 0), (1, 1)], [], None):
            self.told(thing, False, 5, 8)
            self.told(thing, False, 3, 5)
        self.told([(0, 0), (1, 1)], True, 5, 5)
        self.told([(0, 1), (1, 0)], False, 5, 5)

    def test_unlike_by_one_house_or_joined(self):
        for at in range(6):
            for row in ((OTHERS[at][2] + 1, OTHERS[at][3]), (OTHERS[at][2], not OTHERS[at][3])):
                if OTHERS[at][1] == -1 and row[1]:
                    continue
                others = OTHERS[:at] + [OTHERS[at][:2] + row] + OTHERS[at + 1:]
                heap = counted(run_of(ROWS, 3) + run_of(others, 8))
                self.assertIs(are_pairs(heap, 3, 8, self.GOOD), False)

    def test_askers_that_are_not_paired(self):
        # 6 and 7 are alike in house and joined, but asked by others.
        first = [(0, -1, 0, False), (1, 0, 1, True), (2, 0, 2, True), (6, 1, 3, True), (7, 2, 3, True)]
        heap = counted(run_of(first, 3) + run_of(first, 8))
        good = [(0, 0), (1, 1), (2, 2), (6, 6), (7, 7)]
        self.assertIs(are_pairs(heap, 3, 8, good), True)
        self.assertIs(are_pairs(heap, 3, 8, good[:3] + [(6, 7), (7, 6)]), False)

    def test_a_top_paired_with_no_top(self):
        first = [(0, -1, 0, False), (1, 0, 0, False)]
        heap = counted(run_of(first, 3) + run_of(first, 8))
        self.assertIs(are_pairs(heap, 3, 8, [(0, 0), (1, 1)]), True)
        self.assertIs(are_pairs(heap, 3, 8, [(0, 1), (1, 0)]), False)

    def test_the_thing_stays_as_it_was(self):
        thing = list(self.GOOD)
        self.told(thing, True)
        self.assertEqual(thing, self.GOOD)


class Refusals(unittest.TestCase):

    GOOD = [make(7, 0, -1, 5, 0), make(7, 1, 0, 5, 1, joined=True)]
    THINGS = (None, [], [(0, 0), (1, 1)], 0, True)
    NOT_WHOLE = ({4: -1, 5: -1}, {5: 4}, {4: -1, 5: 3}, {4: 5, 5: 4}, {0: -1, 4: 5, 5: 4})

    def refused(self, cls, heap, one, other):
        """Both functions that hold runs against one another refuse these two."""
        with self.assertRaises(cls, msg=repr((one, other))[:99]) as held:
            shapes_held(heap, one, other)
        self.assertIs(type(held.exception), cls)
        for thing in self.THINGS:
            with self.assertRaises(cls) as held:
                are_pairs(heap, one, other, thing)
            self.assertIs(type(held.exception), cls)

    def shapeless(self, cls, heap, run):
        with self.assertRaises(cls) as held:
            shape_of(heap, run)
        self.assertIs(type(held.exception), cls)

    def test_no_run(self):
        for thing in NO_NUMBERS + FAR_NUMBERS + (2, 3, nested(20), nested(20, list), (0,) * 20000):
            for heap in (self.GOOD, self.GOOD + asking({4: 5, 5: 4}, 1), self.GOOD + asking({1: -1}, 1)):
                self.shapeless(NoRun, heap, thing)
                self.refused(NoRun, heap, thing, 7)
                self.refused(NoRun, heap, 7, thing)
                self.refused(NoRun, heap, thing, thing)
            self.shapeless(NoRun, [], thing)
            self.refused(NoRun, [], thing, thing)
        # The runs are 0 and 1, which False and True equal.
        for thing in (False, True):
            self.shapeless(NoRun, [make(0), make(1, house=1)], thing)
            self.refused(NoRun, [make(0), make(1, house=1)], thing, 0)
            self.refused(NoRun, [make(0), make(1, house=1)], 0, thing)

    def test_not_whole(self):
        for askers in self.NOT_WHOLE:
            heap = asking(askers, 2) + self.GOOD
            self.shapeless(NotWhole, heap, 2)
            self.refused(NotWhole, heap, 2, 7)
            self.refused(NotWhole, heap, 7, 2)
            self.refused(NotWhole, heap, 2, 2)
            self.assertEqual(shape_of(heap, 7), "5u(5j)")

    def test_the_one_ahead_of_the_other(self):
        for askers in self.NOT_WHOLE:
            heap = asking(askers, 2) + self.GOOD
            for thing in (9, None, True, [], -1):
                self.refused(NotWhole, heap, 2, thing)
                self.refused(NoRun, heap, thing, 2)

    def test_clash_ahead_of_all(self):
        low, high = make(6, 2, -1, 6, 2, 0, 4), make(6, 2, -1, 6, 2, 0, 5)
        for heap in ([high] + self.GOOD + [low], [high, low] + asking({4: 5, 5: 4}) + self.GOOD):
            before = list(heap)
            for one in (7, 6, 0, 9, None, True, []):
                for other in (7, 6, 0, 9, None, True, []):
                    for function, more in ((shape_of, ()), (shapes_held, (other,)), (are_pairs, (other, None))):
                        with self.assertRaises(Clash) as held:
                            function(heap, one, *more)
                        self.assertIs(type(held.exception), Clash)
                        self.assertEqual(held.exception.pair, (low, high))
            self.assertEqual(heap, before)


if __name__ == "__main__":
    unittest.main()
