"""Points 15 and 16: right runs done anew with more time, and the slack of their pieces."""

import copy
import random
import unittest

from latewood.anew import done_anew, slack_of
from latewood.errors import Clash, NoMore, NoPiece, NoRun, NotRight
from latewood.ways import is_right, way_of

from helpers import (
    FAR_NUMBERS, NO_NUMBERS, asking, beside, counted, make, nested, piece, retold, right_run,
)

LONG = 10 ** 30 - 1
FAR = 10 ** 39


def times_of(pieces):
    """The begins and ends of pieces: a dict by their numbers."""
    return {one[1]: one[5:7] for one in pieces}


class ByWords:
    """A run done anew as point 15 says it, apart from the program; the olds are those with no more time."""

    def __init__(self, pieces, more):
        self.pieces = {one[1]: one for one in pieces}
        self.more = more

    def kids(self, number):
        return [one for one in self.pieces.values() if one[2] == number]

    def ahead(self, whose):
        return [
            one for one in self.kids(whose[2])
            if one[7] and one[5] < one[6] and one[6] <= whose[5]
        ]

    def begin(self, number):
        one = self.pieces[number]
        if one[2] == -1:
            return one[5]
        ahead = self.ahead(one)
        start = max([self.begin(one[2])] + [self.end(other[1]) for other in ahead])
        started = max([self.pieces[one[2]][5]] + [other[6] for other in ahead])
        return start + (one[5] - started)

    def end(self, number):
        one = self.pieces[number]
        kids = self.kids(number)
        rest = max([self.begin(number)] + [self.end(kid[1]) if kid[7] else self.begin(kid[1]) for kid in kids])
        rested = max([one[5]] + [kid[6] if kid[7] else kid[5] for kid in kids])
        return rest + (one[6] - rested) + self.more.get(number, 0)

    def anew(self):
        return [one[:5] + (self.begin(at), self.end(at), one[7]) for at, one in sorted(self.pieces.items())]


class DoneAnew(unittest.TestCase):

    def told(self, heap, more, times, run=0):
        """The run done anew with more has these times, in other orders and beside other runs, too."""
        mine = sorted(one for one in heap if one[0] == run)
        anew = [one[:5] + times[one[1]] + one[7:] for one in mine]
        for pieces in (heap, heap[::-1] * 2, heap + beside(), beside() + heap):
            self.assertEqual(done_anew(pieces, run, more), anew)
        self.assertIs(is_right(anew, run), True)

    def test_with_nothing_more(self):
        chance = random.Random(150)
        for _ in range(100):
            heap = counted(right_run(chance, 4, chance.randrange(1, 15), top=0.1) + right_run(chance, 5, 3))
            mine = sorted(one for one in heap if one[0] == 4)
            for more in ({}, {mine[0][1]: 0}, {one[1]: 0 for one in mine}):
                told = done_anew(heap, 4, more)
                self.assertIs(type(told), list)
                self.assertEqual(told, mine)

    def test_a_top_alone(self):
        self.told([piece(7, -1, -3, 9)], {7: 5}, {7: (-3, 14)})
        self.told([piece(7, -1, 4, 4)], {7: 5}, {7: (4, 9)})
        self.told([piece(7, -1, 4, 4)], {7: 0}, {7: (4, 4)})

    def test_a_joined_kid(self):
        heap = [piece(0, -1, 0, 10), piece(1, 0, 3, 7)]
        self.told(heap, {1: 5}, {0: (0, 15), 1: (3, 12)})
        self.told(heap, {0: 5}, {0: (0, 15), 1: (3, 7)})
        self.told(heap, {0: 5, 1: 1}, {0: (0, 16), 1: (3, 8)})

    def test_a_kid_that_is_not_joined(self):
        heap = [piece(0, -1, 0, 10), piece(1, 0, 3, 7, False)]
        self.told(heap, {1: 500}, {0: (0, 10), 1: (3, 507)})
        self.told(heap, {0: 5}, {0: (0, 15), 1: (3, 7)})

    def test_kids_one_behind_the_other(self):
        heap = [piece(0, -1, 0, 20), piece(5, 0, 2, 6), piece(1, 0, 9, 12), piece(3, 0, 15, 18)]
        self.told(heap, {5: 4}, {0: (0, 24), 5: (2, 10), 1: (13, 16), 3: (19, 22)})
        self.told(heap, {1: 4}, {0: (0, 24), 5: (2, 6), 1: (9, 16), 3: (19, 22)})
        self.told(heap, {3: 4}, {0: (0, 24), 5: (2, 6), 1: (9, 12), 3: (15, 22)})
        self.told(heap, {5: 1, 1: 10, 3: 100}, {0: (0, 131), 5: (2, 7), 1: (10, 23), 3: (26, 129)})

    def test_kids_at_once(self):
        heap = [piece(0, -1, 0, 20), piece(1, 0, 2, 10), piece(2, 0, 5, 16), piece(3, 0, 16, 17)]
        self.told(heap, {1: 3}, {0: (0, 20), 1: (2, 13), 2: (5, 16), 3: (16, 17)})
        self.told(heap, {1: 6}, {0: (0, 20), 1: (2, 16), 2: (5, 16), 3: (16, 17)})
        self.told(heap, {1: 7}, {0: (0, 21), 1: (2, 17), 2: (5, 16), 3: (17, 18)})
        self.told(heap, {2: 2}, {0: (0, 22), 1: (2, 10), 2: (5, 18), 3: (18, 19)})

    def test_a_kid_that_ends_just_where_another_one_begins(self):
        heap = [piece(0, -1, 0, 20), piece(1, 0, 2, 10), piece(2, 0, 10, 12)]
        self.told(heap, {1: 3}, {0: (0, 23), 1: (2, 13), 2: (13, 15)})
        heap = [piece(0, -1, 0, 20), piece(1, 0, 2, 11), piece(2, 0, 10, 12)]
        self.told(heap, {1: 3}, {0: (0, 22), 1: (2, 14), 2: (10, 12)})

    def test_what_is_not_joined_waits_for_others_and_nobody_for_it(self):
        heap = [piece(0, -1, 0, 20), piece(1, 0, 2, 5), piece(2, 0, 7, 9, False), piece(3, 0, 11, 12)]
        self.told(heap, {1: 3}, {0: (0, 23), 1: (2, 8), 2: (10, 12), 3: (14, 15)})
        self.told(heap, {2: 30}, {0: (0, 20), 1: (2, 5), 2: (7, 39), 3: (11, 12)})

    def test_the_begin_of_what_is_not_joined_holds_its_asker(self):
        heap = [piece(0, -1, 0, 20), piece(1, 0, 2, 5), piece(2, 0, 17, 30, False), piece(3, 0, 1, 19)]
        self.told(heap, {1: 2}, {0: (0, 20), 1: (2, 7), 2: (19, 32), 3: (1, 19)})
        self.told(heap, {1: 4}, {0: (0, 22), 1: (2, 9), 2: (21, 34), 3: (1, 19)})
        self.told(heap, {3: 4}, {0: (0, 24), 1: (2, 5), 2: (17, 30), 3: (1, 23)})

    def test_what_takes_no_time(self):
        heap = [
            piece(0, -1, 0, 20), piece(1, 0, 2, 8), piece(2, 0, 8, 8), piece(3, 0, 8, 12), piece(4, 0, 0, 0),
            piece(5, 0, 20, 20),
        ]
        # Nobody's start hangs on 2 or 4, which take no time; the end does hang on them.
        self.told(heap, {2: 4}, {0: (0, 20), 1: (2, 8), 2: (8, 12), 3: (8, 12), 4: (0, 0), 5: (20, 20)})
        self.told(heap, {2: 15}, {0: (0, 23), 1: (2, 8), 2: (8, 23), 3: (8, 12), 4: (0, 0), 5: (20, 20)})
        self.told(heap, {4: 25}, {0: (0, 25), 1: (2, 8), 2: (8, 8), 3: (8, 12), 4: (0, 25), 5: (20, 20)})
        self.told(heap, {5: 2}, {0: (0, 22), 1: (2, 8), 2: (8, 8), 3: (8, 12), 4: (0, 0), 5: (20, 22)})
        self.told(heap, {1: 1}, {0: (0, 21), 1: (2, 9), 2: (9, 9), 3: (9, 13), 4: (0, 0), 5: (21, 21)})
        self.told(heap, {4: 1, 2: 1}, {0: (0, 20), 1: (2, 8), 2: (8, 9), 3: (8, 12), 4: (0, 1), 5: (20, 20)})

    def test_it_is_the_old_times_that_tell_who_waits(self):
        # By the new times 1 would end behind 2's old begin, and 4 takes time only anew.
        heap = [piece(0, -1, 0, 30), piece(1, 0, 1, 5), piece(2, 0, 6, 9), piece(3, 0, 7, 8), piece(4, 0, 5, 5)]
        self.told(heap, {1: 10}, {0: (0, 40), 1: (1, 15), 2: (16, 19), 3: (17, 18), 4: (15, 15)})
        self.told(heap, {4: 9}, {0: (0, 35), 1: (1, 5), 2: (6, 9), 3: (7, 8), 4: (5, 14)})

    def test_kids_of_kids(self):
        heap = [
            piece(0, -1, 0, 100), piece(1, 0, 10, 50), piece(2, 0, 60, 90), piece(3, 1, 20, 40), piece(4, 2, 60, 70),
            piece(5, 2, 75, 90), piece(6, 3, 30, 31, False), piece(7, 4, 60, 70),
        ]
        self.told(heap, {3: 5}, {
            0: (0, 105), 1: (10, 55), 2: (65, 95), 3: (20, 45), 4: (65, 75), 5: (80, 95), 6: (30, 31), 7: (65, 75),
        })
        self.told(heap, {7: 8, 6: 800, 1: 1}, {
            0: (0, 109), 1: (10, 51), 2: (61, 99), 3: (20, 40), 4: (61, 79), 5: (84, 99), 6: (30, 831), 7: (61, 79),
        })

    def test_a_kid_waits_for_the_latest_anew(self):
        # By the old times 2 is the last that 3 waits for, by the new ones 1 is.
        heap = [piece(0, -1, 0, 30), piece(1, 0, 1, 8), piece(2, 0, 2, 10), piece(3, 0, 12, 20)]
        self.told(heap, {1: 5}, {0: (0, 33), 1: (1, 13), 2: (2, 10), 3: (15, 23)})
        self.told(heap, {1: 2}, {0: (0, 30), 1: (1, 10), 2: (2, 10), 3: (12, 20)})

    def test_sixty_each_asked_by_the_last(self):
        heap = [piece(0, -1, 0, 200)] + [piece(k, k - 1, k, 200 - k) for k in range(1, 60)]
        self.told(heap, {59: 7}, {k: (k, 207 - k) for k in range(60)})
        more = {k: 1 for k in range(60)}
        self.told(heap, more, {k: (k, 200 - k + 60 - k) for k in range(60)})
        heap = [piece(0, -1, 0, 99)] + [piece(k, k - 1, k, 99) for k in range(1, 100)]
        self.told(heap, {99: 1}, {k: (k, 100) for k in range(100)})

    def test_sixty_one_behind_the_other(self):
        heap = [piece(0, -1, 0, 60)] + [piece(k, 0, k - 1, k) for k in range(1, 60)]
        times = {k: (2 * k - 2, 2 * k) for k in range(1, 60)}
        self.told(heap, {k: 1 for k in range(1, 60)}, {0: (0, 119), **times})

    def test_far_more_time(self):
        heap = [piece(0, -1, -LONG, LONG), piece(1, 0, 1 - LONG, LONG - 1), piece(2, 1, 0, 9, False)]
        self.told(heap, {1: FAR}, {0: (-LONG, LONG + FAR), 1: (1 - LONG, LONG - 1 + FAR), 2: (0, 9)})
        self.told(heap, {0: FAR, 1: FAR, 2: FAR}, {
            0: (-LONG, LONG + 2 * FAR), 1: (1 - LONG, LONG - 1 + FAR), 2: (0, 9 + FAR),
        })

    def test_of_the_run_that_is_asked_for(self):
        heap = [piece(0, -1, 0, 9), piece(1, 0, 2, 3), piece(0, -1, 50, 60, run=5), piece(2, 0, 51, 60, run=5)]
        self.told(heap, {1: 1}, {0: (0, 10), 1: (2, 4)})
        self.told(heap, {2: 1}, {0: (50, 61), 2: (51, 61)}, 5)
        self.assertRaises(NoMore, done_anew, heap, 0, {2: 1})
        self.assertRaises(NoMore, done_anew, heap, 5, {1: 1})

    def test_as_the_words_tell(self):
        chance = random.Random(151)
        for _ in range(400):
            long = chance.choice((3, 12, 40))
            heap = counted(right_run(chance, 0, chance.randrange(1, 12), long, top=0.05) + right_run(chance, 1, 5))
            heap = retold(chance, heap)
            for run in (0, 1):
                mine = [one for one in sorted(set(heap)) if one[0] == run]
                some = chance.sample(mine, chance.randrange(len(mine) + 1))
                more = {one[1]: chance.choice((0, 1, 2, 5, 50)) for one in some}
                told = done_anew(heap, run, more)
                self.assertEqual(told, ByWords(mine, more).anew())
                self.assertIs(is_right(told, run), True)
                self.assertEqual(told, sorted(told))

    def test_what_is_told_is_the_askers_own(self):
        heap = [piece(1, 0, 3, 7), piece(0, -1, 0, 10)] + beside()
        more = {1: 2}
        before = copy.deepcopy((heap, more))
        told = done_anew(heap, 0, more)
        self.assertEqual((heap, more), before)
        again = done_anew(heap, 0, more)
        self.assertIsNot(told, again)
        told.append("mine")
        self.assertEqual((heap, more), before)
        self.assertEqual(done_anew(heap, 0, more), again)
        more.clear()
        heap.clear()
        self.assertEqual(again, [piece(0, -1, 0, 12), piece(1, 0, 3, 9)])

    def test_by_names(self):
        heap = [piece(0, -1, 0, 10), piece(1, 0, 3, 7)]
        self.assertEqual(done_anew(more={1: 2}, run=0, heap=heap), done_anew(heap, 0, {1: 2}))
        self.assertEqual(slack_of(number=1, run=0, heap=heap), 0)


class NoMoreTime(unittest.TestCase):

    HEAP = [piece(0, -1, 0, 10), piece(1, 0, 3, 7), piece(2, 0, 1, 2), piece(4, -1, 0, 1, run=5)]

    def refused(self, more):
        before = copy.deepcopy(more)
        with self.assertRaises(NoMore, msg=repr(more)[:99]) as held:
            done_anew(self.HEAP, 0, more)
        self.assertIs(type(held.exception), NoMore)
        self.assertEqual(more, before)

    def test_no_dict(self):
        things = NO_NUMBERS + FAR_NUMBERS + (0, 1, 5, nested(20), nested(20, list), [0] * 20000, [(1, 2)], ((1, 2),), [1])
        for thing in things:
            self.refused(thing)

    def test_numbers_of_no_piece(self):
        for number in FAR_NUMBERS + (3, 4, 99, "1", None, (), (1,), "", True, False, (1, 2), nested(20)):
            self.refused({number: 1})
            self.refused({number: 0})
            self.refused({0: 1, 1: 1, 2: 0, number: 1} if number not in (0, 1) else {2: 0, number: 1})

    def test_no_whole_number_from_0_on(self):
        for thing in NO_NUMBERS + (-1, -2, -FAR, nested(20), nested(20, list), {}, {1: 1}):
            self.refused({1: thing})
            self.refused({0: 3, 2: 0, 1: thing})
            self.refused({1: thing, 0: 3})

    def test_what_is_more_time_beside_them(self):
        for more in ({}, {0: 0}, {1: 1}, {2: FAR}, {0: 1, 1: 2, 2: 3}, {2: 3, 0: 1}):
            self.assertEqual(done_anew(self.HEAP, 0, more), ByWords(self.HEAP[:3], more).anew())


class Slack(unittest.TestCase):

    def told(self, heap, slacks, run=0):
        """The pieces have these slacks, and the top's end moves just by what goes beyond them."""
        top = [one for one in heap if one[0] == run and one[2] == -1][0]
        for pieces in (heap, heap[::-1] * 2, heap + beside(), beside() + heap):
            self.assertEqual({number: slack_of(pieces, run, number) for number in slacks}, slacks)
        for number, slack in slacks.items():
            if slack is None:
                for by in (1, 5, 1000, FAR):
                    self.assertEqual(times_of(done_anew(heap, run, {number: by}))[top[1]], top[5:7])
                continue
            for by in {0, slack // 2, max(0, slack - 1), slack, slack + 1, slack + 2, slack + 50, slack + FAR}:
                end = times_of(done_anew(heap, run, {number: by}))[top[1]][1]
                self.assertEqual(end, top[6] + max(0, by - slack))

    def test_of_pieces_in_the_way(self):
        self.told([piece(7, -1, -3, 9)], {7: 0})
        self.told([piece(7, -1, 4, 4)], {7: 0})
        self.told([piece(0, -1, 0, 10), piece(1, 0, 3, 7)], {0: 0, 1: 0})
        self.told([piece(0, -1, 0, 10), piece(1, 0, 0, 10), piece(2, 1, 0, 10)], {0: 0, 1: 0, 2: 0})
        self.told([piece(0, -1, 0, 20), piece(1, 0, 2, 10), piece(2, 0, 10, 12)], {0: 0, 1: 0, 2: 0})

    def test_of_one_that_waits_a_little_for_others(self):
        heap = [piece(0, -1, 0, 20), piece(1, 0, 2, 10), piece(2, 0, 5, 16), piece(3, 0, 16, 17)]
        self.told(heap, {0: 0, 1: 6, 2: 0, 3: 0})
        heap = [piece(0, -1, 0, 20), piece(1, 0, 2, 10), piece(2, 0, 5, 16), piece(3, 1, 3, 6), piece(4, 1, 4, 9)]
        self.told(heap, {0: 0, 1: 6, 2: 0, 3: 9, 4: 6})

    def test_of_one_that_never_matters(self):
        heap = [
            piece(0, -1, 0, 20), piece(1, 0, 2, 10, False), piece(2, 1, 3, 9), piece(3, 2, 4, 5), piece(4, 0, 5, 50, False),
        ]
        self.told(heap, {0: 0, 1: None, 2: None, 3: None, 4: None})
        # What 4's begin waits for does matter, as the top ends behind it.
        heap.append(piece(5, 0, 0, 1))
        self.told(heap, {0: 0, 1: None, 2: None, 3: None, 4: None, 5: 0})

    def test_by_the_begin_of_what_is_not_joined(self):
        # 1 holds 2's begin, and this the top's end.
        heap = [piece(0, -1, 0, 20), piece(1, 0, 2, 5), piece(2, 0, 17, 90, False), piece(3, 0, 1, 19)]
        self.told(heap, {0: 0, 1: 2, 2: None, 3: 0})

    def test_of_what_takes_no_time(self):
        heap = [piece(0, -1, 0, 20), piece(1, 0, 2, 8), piece(2, 0, 8, 8), piece(3, 0, 8, 12), piece(4, 0, 0, 0)]
        self.told(heap, {0: 0, 1: 0, 2: 4, 3: 0, 4: 12})
        heap = [piece(0, -1, 5, 5), piece(1, 0, 5, 5), piece(2, 0, 5, 60, False), piece(3, 2, 7, 60)]
        self.told(heap, {0: 0, 1: 0, 2: None, 3: None})

    def test_a_slack_as_great_as_can_be(self):
        heap = [piece(0, -1, 0, LONG), piece(1, 0, 0, LONG), piece(2, 0, 0, 0), piece(3, 1, 0, 0)]
        self.told(heap, {0: 0, 1: 0, 2: LONG, 3: 0})
        heap = [piece(0, -1, -LONG, LONG), piece(1, 0, -LONG, LONG), piece(2, 0, -LONG, 2 - LONG)]
        self.told(heap, {0: 0, 1: 0, 2: 2 * LONG - 2})

    def test_deep_down(self):
        heap = [piece(0, -1, 0, 200), piece(99, 0, 0, 200)] + [piece(k, k - 1, k, 190 - k) for k in range(1, 58)]
        self.told(heap, {0: 0, 99: 0, **{k: 11 for k in range(1, 58)}})

    def test_of_the_run_that_is_asked_for(self):
        heap = [piece(0, -1, 0, 9), piece(1, 0, 2, 3), piece(0, -1, 50, 60, run=5), piece(2, 0, 51, 60, run=5)]
        heap += [piece(1, 0, 50, 52, run=5)]
        self.told(heap, {0: 0, 1: 0})
        self.told(heap, {0: 0, 1: 8, 2: 0}, 5)

    def test_as_the_words_tell(self):
        chance = random.Random(160)
        found = {"none": 0, "nought": 0, "some": 0}
        for _ in range(200):
            heap = counted(right_run(chance, 0, chance.randrange(1, 12), chance.choice((3, 12, 40)), top=0.05))
            mine = sorted(heap)
            top = [one for one in mine if one[2] == -1][0]
            way = {number for number, _, _ in way_of(heap, 0)}
            slacks = {one[1]: slack_of(retold(chance, heap), 0, one[1]) for one in mine}
            self.told(heap, slacks)
            for number, slack in slacks.items():
                found["none" if slack is None else "some" if slack else "nought"] += 1
                if number in way:
                    self.assertEqual(slack, 0)
                far = ByWords(mine, {number: 10 ** 6}).end(top[1]) - top[6]
                self.assertEqual(slack, 10 ** 6 - far if far else None)
        self.assertGreater(min(found.values()), 100)

    def test_kinds(self):
        heap = [piece(0, -1, 0, 20), piece(1, 0, 2, 10), piece(2, 0, 5, 16)]
        self.assertIs(type(slack_of(heap, 0, 0)), int)
        self.assertIs(type(slack_of(heap, 0, 1)), int)


class Refusals(unittest.TestCase):

    def refused(self, cls, function, *things):
        with self.assertRaises(cls, msg=repr(things[1:])[:99]) as held:
            function(*things)
        self.assertIs(type(held.exception), cls)

    def test_no_run(self):
        heaps = [
            [piece(0, -1, 0, 9, run=1), piece(1, 0, 2, 3, run=1)], [piece(4, 0, 2, 3, run=1)],
            [piece(0, -1, 0, 9), piece(0, -1, 0, 9, run=1)], [piece(0, -1, 0, 9), piece(1, 0, 9, 10)], [],
        ]
        for heap in heaps:
            for thing in NO_NUMBERS + FAR_NUMBERS + (2, 3, nested(20), nested(20, list), (0,) * 20000):
                for behind in (None, {}, {0: 1}, {0: None}, 0, 1, 77, True):
                    self.refused(NoRun, done_anew, heap, thing, behind)
                    self.refused(NoRun, slack_of, heap, thing, behind)

    def test_not_right(self):
        runs = [asking(askers) for askers in ({4: -1, 5: -1}, {5: 4}, {4: -1, 5: 3}, {4: 5, 5: 4}, {0: -1, 4: 5, 5: 4})]
        runs += [
            [piece(0, -1, 10, 50), piece(1, 0, 9, 50)], [piece(0, -1, 10, 50), piece(1, 0, 10, 51)],
            [piece(0, -1, 10, 50), piece(1, 0, 51, 51, False)], [piece(0, -1, 10, 50), piece(1, 0, 9, 50, False)],
        ]
        good = [piece(0, -1, 0, 9, run=7)]
        for heap in runs:
            for behind in (None, {}, {0: 1}, {4: 1, 5: True}, {77: 1}, 0, 4, 5, 77, True, [], "0"):
                self.refused(NotRight, done_anew, heap, 0, behind)
                self.refused(NotRight, slack_of, heap, 0, behind)
                self.refused(NotRight, done_anew, good + heap, 0, behind)
                self.refused(NotRight, slack_of, good + heap, 0, behind)
            self.assertEqual(done_anew(heap + good, 7, {0: 1}), [piece(0, -1, 0, 10, run=7)])
            self.assertEqual(slack_of(heap + good, 7, 0), 0)

    def test_no_piece(self):
        heap = [piece(0, -1, 0, 9), piece(1, 0, 2, 3), piece(5, 7, 2, 3, run=3), piece(4, -1, 2, 3, run=2)]
        for thing in NO_NUMBERS + FAR_NUMBERS + (2, 3, 4, 5, 7, 99, nested(20), nested(20, list), (0,) * 20000, {}):
            self.refused(NoPiece, slack_of, heap, 0, thing)
        self.assertEqual(slack_of(heap, 0, 1), 0)

    def test_clash_ahead_of_all(self):
        low, high = piece(2, -1, 0, 4, run=6), piece(2, -1, 0, 5, run=6)
        heap = [high, piece(0, -1, 0, 9), piece(4, 0, 2, 3, run=1), low]
        before = list(heap)
        for run in (0, 1, 6, 9, None, True, []):
            for behind in ({}, {0: 1}, {0: True}, None, 0, 2, 77, True, []):
                for function in (done_anew, slack_of):
                    with self.assertRaises(Clash) as held:
                        function(heap, run, behind)
                    self.assertIs(type(held.exception), Clash)
                    self.assertEqual(held.exception.pair, (low, high))
                    self.assertEqual(heap, before)


if __name__ == "__main__":
    unittest.main()
