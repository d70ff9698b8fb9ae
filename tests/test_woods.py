"""Points 7 and 8: the wood of a run or its ring, ways up, and all beneath."""

import random
import unittest

from latewood.errors import Clash, NoPiece, NoRun, NoWood
from latewood.woods import beneath, is_whole_run, way_up, wood_of

from helpers import (
    FAR_NUMBERS, NO_NUMBERS, askers_of, asking, counted, make, nested, retold, right_run, up_by_words, whole_by_words,
)


def wood_by_words(heap, run):
    """What point 7 says of a run, apart from the program."""
    askers = askers_of(heap, run)
    rings = []
    for number in askers:
        way, ring = up_by_words(askers, number)
        if ring and askers[way[-1]] == number:
            rings.append(tuple(way))
    if rings:
        return ("ring", min(rings))
    named = sorted({asker for asker in askers.values() if asker != -1})
    return (
        "wood",
        sorted(number for number in askers if askers[number] == -1),
        [number for number in named if number not in askers],
        {name: sorted(number for number in askers if askers[number] == name) for name in named},
    )


def random_askers(chance):
    """Askers of a run: a wood as often as not, else such that rings come about."""
    numbers = chance.sample(range(100), chance.randrange(1, 13))
    strange = chance.sample(range(100), 2)
    askers = {}
    for at, number in enumerate(numbers):
        if chance.random() < 0.5:
            known = numbers[:at] + [-1]
        else:
            known = numbers + strange + [-1]
        askers[number] = chance.choice([one for one in known if one != number])
    return askers


def random_runs(chance, many=3):
    """A heap of some runs with such askers, and the runs."""
    runs = chance.sample(range(100), many)
    pieces = []
    for run in runs:
        askers = random_askers(chance)
        pieces += [make(run, number, askers[number], joined=askers[number] != -1) for number in askers]
    return counted(pieces), runs


class Wood(unittest.TestCase):

    def told(self, askers, wood, run=0):
        """The run of these askers has this wood, beside other runs, too."""
        heap = asking(askers, run)
        beside = asking({number: -1 for number in range(20)}, (run + 1) % 100)
        beside += asking({4: 5, 5: 4, 8: 90}, (run + 2) % 100)
        for pieces in (heap, heap[::-1], heap + beside, beside + heap[::-1] + heap):
            self.assertEqual(wood_of(pieces, run), wood)
            self.assertIs(type(wood_of(pieces, run)), tuple)
            whole = wood[0] == "wood" and len(wood[1]) == 1 and wood[2] == []
            self.assertIs(is_whole_run(pieces, run), whole)

    def test_a_top_alone(self):
        for run in (0, 1, 50, 99):
            for number in (0, 1, 99):
                self.told({number: -1}, ("wood", [number], [], {}), run)

    def test_one_top(self):
        self.told({3: -1, 9: 3, 1: 3, 20: 9}, ("wood", [3], [], {3: [1, 9], 9: [20]}))
        self.told({0: 99, 99: -1}, ("wood", [99], [], {99: [0]}), 99)

    def test_several_tops(self):
        self.told({7: -1, 2: -1, 30: 7, 10: -1}, ("wood", [2, 7, 10], [], {7: [30]}))
        self.told({0: -1, 1: -1}, ("wood", [0, 1], [], {}))

    def test_no_top_but_a_gap(self):
        self.told({5: 2}, ("wood", [], [2], {2: [5]}))
        self.told({5: 0, 6: 5, 3: 0}, ("wood", [], [0], {0: [3, 5], 5: [6]}))

    def test_several_gaps(self):
        self.told({5: 9, 6: 10, 7: 2, 8: 10}, ("wood", [], [2, 9, 10], {2: [7], 9: [5], 10: [6, 8]}))

    def test_a_top_and_gaps(self):
        self.told({1: -1, 4: 3}, ("wood", [1], [3], {3: [4]}))
        self.told({1: -1, 2: 1, 4: 99, 5: 0}, ("wood", [1], [0, 99], {0: [5], 1: [2], 99: [4]}))

    def test_two_tops_and_a_gap(self):
        self.told({1: -1, 2: -1, 4: 3}, ("wood", [1, 2], [3], {3: [4]}))

    def test_pieces_left_out(self):
        askers = {0: -1, 1: 0, 2: 1, 3: 2, 4: 0}
        self.told(askers, ("wood", [0], [], {0: [1, 4], 1: [2], 2: [3]}))
        without = {
            0: ("wood", [], [0], {0: [1, 4], 1: [2], 2: [3]}),
            1: ("wood", [0], [1], {0: [4], 1: [2], 2: [3]}),
            2: ("wood", [0], [2], {0: [1, 4], 2: [3]}),
            3: ("wood", [0], [], {0: [1, 4], 1: [2]}),
        }
        for number, wood in without.items():
            self.told({one: asker for one, asker in askers.items() if one != number}, wood)

    def test_kids_rise_as_numbers(self):
        askers = {50: -1}
        askers.update({number: 50 for number in (10, 9, 100 - 1, 2, 0, 11)})
        askers.update({number: 9 for number in (70, 8, 30)})
        self.told(askers, ("wood", [50], [], {50: [0, 2, 9, 10, 11, 99], 9: [8, 30, 70]}))

    def test_kids_of_a_gap_rise(self):
        self.told({20: 4, 3: 4, 100 - 1: 4}, ("wood", [], [4], {4: [3, 20, 99]}))

    def test_joined_or_not(self):
        heap = [make(), make(number=1, asker=0, count=1, joined=True), make(number=2, asker=0, count=2)]
        self.assertEqual(wood_of(heap, 0), ("wood", [0], [], {0: [1, 2]}))

    def test_sixty_each_asked_by_the_last(self):
        askers = {number: number - 1 for number in range(60)}
        self.told(askers, ("wood", [0], [], {number: [number + 1] for number in range(59)}))
        askers = {number: number + 1 for number in range(60)}
        self.told(askers, ("wood", [], [60], {number + 1: [number] for number in range(60)}))

    def test_sixty_asked_by_the_first_two(self):
        askers = {0: -1, 1: 0}
        askers.update({number: number % 2 for number in range(2, 60)})
        odd, even = list(range(3, 60, 2)), list(range(2, 60, 2))
        self.told(askers, ("wood", [0], [], {0: [1] + even, 1: odd}))

    def test_a_hundred_pieces(self):
        askers = {number: number - 1 for number in range(100)}
        self.told(askers, ("wood", [0], [], {number: [number + 1] for number in range(99)}))


class Ring(unittest.TestCase):

    def told(self, askers, ring, run=0):
        heap = asking(askers, run)
        beside = asking({number: -1 for number in range(9)}, run + 1) + asking({0: 1, 1: 0}, run + 2)
        for pieces in (heap, heap[::-1], heap + beside, beside + heap * 2):
            self.assertEqual(wood_of(pieces, run), ("ring", ring))
            self.assertIs(type(wood_of(pieces, run)[1]), tuple)
            self.assertIs(is_whole_run(pieces, run), False)

    def test_of_two(self):
        self.told({3: 8, 8: 3}, (3, 8))
        self.told({0: 1, 1: 0}, (0, 1))
        self.told({98: 99, 99: 98}, (98, 99))

    def test_each_ones_asker_comes_next(self):
        self.told({1: 3, 3: 2, 2: 1}, (1, 3, 2))
        self.told({1: 2, 2: 3, 3: 1}, (1, 2, 3))

    def test_of_many(self):
        self.told({number: (number + 1) % 60 for number in range(60)}, tuple(range(60)))
        self.told({number: (number - 1) % 60 for number in range(60)}, (0,) + tuple(range(59, 0, -1)))

    def test_with_others_asked_by_its_pieces(self):
        self.told({5: 7, 7: 5, 0: 5, 1: 0, 6: 7, 9: 1}, (5, 7))
        self.told({5: 9, 7: 5, 9: 7, 2: 9, 1: 2, 8: 1}, (5, 9, 7))

    def test_with_tops_and_gaps_beside(self):
        self.told({0: -1, 1: 0, 2: 60, 5: 7, 7: 5}, (5, 7))

    def test_two_rings(self):
        self.told({4: 9, 9: 4, 5: 6, 6: 5}, (4, 9))
        self.told({8: 9, 9: 8, 5: 6, 6: 5}, (5, 6))
        self.told({2: 50, 50: 40, 40: 2, 3: 4, 4: 3}, (2, 50, 40))
        self.told({3: 50, 50: 40, 40: 3, 2: 40, 7: 6, 6: 7}, (3, 50, 40))

    def test_not_made_by_pieces_of_another_run(self):
        heap = asking({0: 1}, 0) + asking({1: 0}, 1)
        self.assertEqual(wood_of(heap, 0), ("wood", [], [1], {1: [0]}))
        self.assertEqual(wood_of(heap, 1), ("wood", [], [0], {0: [1]}))


class WholeRuns(unittest.TestCase):

    def test_whole(self):
        for askers in ({4: -1}, {4: -1, 5: 4}, {4: -1, 3: 4, 2: 3, 99: 4}):
            self.assertIs(is_whole_run(asking(askers, 7), 7), True)

    def test_not_whole(self):
        for askers in ({4: -1, 5: -1}, {5: 4}, {4: -1, 5: 3}, {4: 5, 5: 4}, {0: -1, 4: 5, 5: 4}):
            self.assertIs(is_whole_run(asking(askers, 7), 7), False)

    def test_other_runs_make_no_difference(self):
        heap = asking({4: -1, 5: 4}, 1) + asking({4: -1, 5: -1, 6: 9}, 2)
        self.assertIs(is_whole_run(heap, 1), True)
        self.assertIs(is_whole_run(heap, 2), False)

    def test_right_runs_are_whole(self):
        chance = random.Random(70)
        for _ in range(50):
            self.assertIs(is_whole_run(right_run(chance, 3), 3), True)


class WayUp(unittest.TestCase):

    def setUp(self):
        self.heap = asking({0: -1, 5: 0, 3: 5, 9: 3, 1: -1, 7: 20, 8: 7}, 4) + asking({20: 5, 0: 3}, 5)

    def test_of_a_top(self):
        self.assertEqual(way_up(self.heap, 4, 0), [0])
        self.assertEqual(way_up(self.heap, 4, 1), [1])

    def test_of_a_piece(self):
        self.assertEqual(way_up(self.heap, 4, 5), [5, 0])
        self.assertEqual(way_up(self.heap, 4, 9), [9, 3, 5, 0])

    def test_to_a_gap(self):
        self.assertEqual(way_up(self.heap, 4, 7), [7, 20])
        self.assertEqual(way_up(self.heap, 4, 8), [8, 7, 20])

    def test_of_a_gap(self):
        self.assertEqual(way_up(self.heap, 4, 20), [20])
        self.assertEqual(way_up(asking({1: 0}), 0, 0), [0])

    def test_deep_down(self):
        heap = asking({number: number - 1 for number in range(60)})
        for number in (0, 1, 30, 59):
            self.assertEqual(way_up(heap, 0, number), list(range(number, -1, -1)))
        heap = asking({number: number + 1 for number in range(60)})
        self.assertEqual(way_up(heap, 0, 0), list(range(61)))

    def test_that_comes_to_a_ring(self):
        heap = asking({2: 3, 3: 4, 4: 2, 5: 4, 6: 5, 0: -1, 1: 0, 7: 30}, 9) + asking({2: -1, 5: 2}, 10)
        for number in (2, 3, 4, 5, 6):
            with self.assertRaises(NoWood) as held:
                way_up(heap, 9, number)
            self.assertIs(type(held.exception), NoWood)
        self.assertEqual(way_up(heap, 9, 0), [0])
        self.assertEqual(way_up(heap, 9, 1), [1, 0])
        self.assertEqual(way_up(heap, 9, 7), [7, 30])
        self.assertEqual(way_up(heap, 9, 30), [30])
        self.assertEqual(way_up(heap, 10, 5), [5, 2])


class Beneath(unittest.TestCase):

    def setUp(self):
        self.heap = asking({6: -1, 5: 6, 3: 5, 9: 3, 1: 6, 2: -1, 7: 20, 8: 7, 4: 20}, 4) + asking({0: 3, 11: 5}, 5)

    def test_of_a_top(self):
        self.assertEqual(beneath(self.heap, 4, 6), [1, 3, 5, 9])
        self.assertEqual(beneath(self.heap, 4, 2), [])

    def test_of_a_piece(self):
        self.assertEqual(beneath(self.heap, 4, 5), [3, 9])
        self.assertEqual(beneath(self.heap, 4, 3), [9])
        self.assertEqual(beneath(self.heap, 4, 9), [])

    def test_of_a_gap(self):
        self.assertEqual(beneath(self.heap, 4, 20), [4, 7, 8])
        self.assertEqual(beneath(self.heap, 5, 3), [0])

    def test_of_sixty(self):
        heap = asking({number: number - 1 for number in range(60)})
        for number in (0, 1, 30, 58, 59):
            self.assertEqual(beneath(heap, 0, number), list(range(number + 1, 60)))
        heap = asking({number: number // 30 - 1 for number in range(60)})
        self.assertEqual(beneath(heap, 0, 0), list(range(30, 60)))

    def test_in_a_run_with_a_ring(self):
        heap = asking({2: 3, 3: 2, 5: 3, 0: -1, 1: 0, 7: 30}, 9) + asking({2: -1, 5: 2}, 10)
        for number in (0, 1, 2, 3, 5, 7, 30):
            with self.assertRaises(NoWood) as held:
                beneath(heap, 9, number)
            self.assertIs(type(held.exception), NoWood)
        self.assertEqual(beneath(heap, 10, 2), [5])


class Refusals(unittest.TestCase):

    def refused(self, cls, function, *things):
        with self.assertRaises(cls, msg=things[1:]) as held:
            function(*things)
        self.assertIs(type(held.exception), cls)

    def test_no_run(self):
        heap = asking({0: -1, 1: 0, 2: 50}, 1) + asking({3: -1}, 0) + asking({1: -1}, 8)
        for thing in NO_NUMBERS + FAR_NUMBERS + (2, 50, nested(20), nested(20, list), (0,) * 20000):
            self.refused(NoRun, wood_of, heap, thing)
            self.refused(NoRun, is_whole_run, heap, thing)
            for number in (0, 1, 50, 77, None, True):
                self.refused(NoRun, way_up, heap, thing, number)
                self.refused(NoRun, beneath, heap, thing, number)

    def test_no_run_of_an_empty_heap(self):
        for run in (0, 1, 99, None, False):
            self.refused(NoRun, wood_of, [], run)
            self.refused(NoRun, is_whole_run, [], run)
            self.refused(NoRun, way_up, [], run, 0)
            self.refused(NoRun, beneath, [], run, 0)

    def test_no_piece(self):
        heap = asking({0: -1, 1: 0, 2: 50}, 1) + asking({3: -1, 4: 60}, 2)
        for thing in NO_NUMBERS + FAR_NUMBERS + (3, 4, 60, 51, nested(20), nested(20, list), [0] * 20000):
            self.refused(NoPiece, way_up, heap, 1, thing)
            self.refused(NoPiece, beneath, heap, 1, thing)

    def test_no_piece_ahead_of_no_wood(self):
        heap = asking({0: 1, 1: 0, 2: 1}, 1)
        for thing in NO_NUMBERS + FAR_NUMBERS + (3, 50):
            self.refused(NoPiece, way_up, heap, 1, thing)
            self.refused(NoPiece, beneath, heap, 1, thing)
        self.refused(NoWood, way_up, heap, 1, 2)
        self.refused(NoWood, beneath, heap, 1, 2)

    def test_clash_ahead_of_all(self):
        low, high = make(2, 2, 3), make(2, 2, 3, count=1)
        heap = [high, make(4, 4, house=2, count=9), low]
        for run in (2, 3, 4, None, True, [0]):
            for number in (2, 3, 7, None, True, [0]):
                for function, more in ((wood_of, ()), (is_whole_run, ()), (way_up, (number,)), (beneath, (number,))):
                    with self.assertRaises(Clash) as held:
                        function(heap, run, *more)
                    self.assertEqual(held.exception.pair, (low, high))


class AsTheWordsTell(unittest.TestCase):

    def test_random_runs(self):
        chance = random.Random(71)
        found = {"ring": 0, "wood": 0, True: 0, False: 0}
        for _ in range(500):
            heap, runs = random_runs(chance)
            heap = retold(chance, heap)
            for run in runs:
                wood = wood_by_words(heap, run)
                self.assertEqual(wood_of(heap, run), wood)
                whole = whole_by_words(askers_of(heap, run))
                self.assertIs(is_whole_run(heap, run), whole)
                found[wood[0]] += 1
                found[whole] += 1
        self.assertGreater(min(found.values()), 100)

    def test_random_ways(self):
        chance = random.Random(72)
        refused = 0
        for _ in range(150):
            heap, runs = random_runs(chance, 2)
            heap = retold(chance, heap)
            for run in runs:
                refused += self.ways_of(heap, run, askers_of(heap, run))
        self.assertGreater(refused, 100)

    def ways_of(self, heap, run, askers):
        """Check all ways of a run and all beneath; tell how many have a ring in them."""
        numbers = sorted(set(askers) | set(askers.values()) - {-1})
        ways = {number: up_by_words(askers, number) for number in numbers}
        rings = [number for number in numbers if ways[number][1]]
        for number in numbers:
            if number in rings:
                self.assertRaises(NoWood, way_up, heap, run, number)
            else:
                self.assertEqual(way_up(heap, run, number), ways[number][0])
            if rings:
                self.assertRaises(NoWood, beneath, heap, run, number)
            else:
                under = [low for low in sorted(askers) if number in ways[low][0][1:]]
                self.assertEqual(beneath(heap, run, number), under)
        return len(rings)


if __name__ == "__main__":
    unittest.main()
