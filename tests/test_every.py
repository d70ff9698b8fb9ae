"""Points 2, 3 and 5, of each function that is handed a heap, and of a keeper that is told its pieces."""

import copy
import random
import unittest

from latewood.anew import done_anew, slack_of
from latewood.errors import Clash, WoodError
from latewood.gaps import fills, gap_of
from latewood.heaps import cleared, holes_of, houses_of, runs_of
from latewood.keeper import Keeper
from latewood.shapes import are_pairs, shape_of, shapes_held
from latewood.shifts import are_shifts, is_ring, shifts_of, ties_of
from latewood.spans import most_of, shows_most, span_of
from latewood.ways import is_right, own_times, shifted, way_of
from latewood.woods import beneath, is_whole_run, way_up, wood_of

from helpers import asking, counted, make, moved, retold, right_run, spoil

# Run 3 is right as it stands; run 1 has a gap, and by it no shifts are lost; run 9 has a ring of pieces.
GOOD = [
    make(3, 0, -1, 2, 0, -5, 12), make(3, 4, 0, 1, 0, 0, 9, True), make(3, 2, 4, 1, 1, 3, 4, True),
    make(3, 7, 0, 5, 0, 12, 90, False), make(1, 6, 8, 6, 3, 7, 8, True), make(1, 5, 6, 2, 1, 7, 8, True),
    make(9, 1, 2, 0, 0, 0, 1, True), make(9, 2, 1, 0, 1, 0, 1, True),
]
ROWS = [(0, 0), (1, 0), (2, 0), (5, 0), (6, 0)]

# Without run 9, and with a piece too long, so that the houses 1 and 2 have a ring.
BAD = GOOD[:6] + [make(9, 0, -1, 1, 9, 0, 5), make(9, 1, 0, 2, 9, 0, 6, True)]

# Each function, what is handed in behind the heap, and by which names.
CALLS = (
    (wood_of, (3,), ("run",)),
    (wood_of, (1,), ("run",)),
    (wood_of, (9,), ("run",)),
    (is_whole_run, (3,), ("run",)),
    (is_whole_run, (1,), ("run",)),
    (way_up, (3, 2), ("run", "number")),
    (way_up, (1, 8), ("run", "number")),
    (beneath, (3, 0), ("run", "number")),
    (beneath, (1, 8), ("run", "number")),
    (ties_of, (), ()),
    (shifts_of, (), ()),
    (are_shifts, (ROWS,), ("thing",)),
    (are_shifts, ([[0]],), ("thing",)),
    (is_ring, ((1, 2),), ("thing",)),
    (is_ring, (([],),), ("thing",)),
    (span_of, (1, 2), ("one", "other")),
    (span_of, (1, 0), ("one", "other")),
    (most_of, (1, 2), ("one", "other")),
    (most_of, (1, 0), ("one", "other")),
    (shows_most, (1, 2, 7, (1, 2)), ("one", "other", "number", "thing")),
    (shows_most, (1, 2, 2, (1, 2)), ("one", "other", "number", "thing")),
    (shifted, (ROWS,), ("rows",)),
    (is_right, (3,), ("run",)),
    (is_right, (9,), ("run",)),
    (way_of, (3,), ("run",)),
    (own_times, (3,), ("run",)),
    (done_anew, (3, {2: 4, 0: 1}), ("run", "more")),
    (slack_of, (3, 2), ("run", "number")),
    (slack_of, (3, 7), ("run", "number")),
    (gap_of, (1, 8), ("run", "number")),
    (fills, (make(1, 8, -1, 0, 5, 7, 8),), ("piece",)),
    (fills, (make(1, 8, -1, 0, 5, 8, 8),), ("piece",)),
    (cleared, (), ()),
    (runs_of, (), ()),
    (houses_of, (), ()),
    (holes_of, (), ()),
    (shape_of, (3,), ("run",)),
    (shapes_held, (3, 3), ("one", "other")),
    (are_pairs, (3, 3, [(0, 0), (2, 2), (4, 4), (7, 7)]), ("one", "other", "thing")),
    (are_pairs, (3, 3, [[0]]), ("one", "other", "thing")),
)

NAMES = {
    wood_of: "woods", is_whole_run: "woods", way_up: "woods", beneath: "woods",
    ties_of: "shifts", shifts_of: "shifts", are_shifts: "shifts", is_ring: "shifts",
    span_of: "spans", most_of: "spans", shows_most: "spans",
    shifted: "ways", is_right: "ways", way_of: "ways", own_times: "ways",
    done_anew: "anew", slack_of: "anew", gap_of: "gaps", fills: "gaps",
    cleared: "heaps", runs_of: "heaps", houses_of: "heaps", holes_of: "heaps",
    shape_of: "shapes", shapes_held: "shapes", are_pairs: "shapes",
}


# Which of them a keeper tells of its pieces, by which method.
METHODS = {
    cleared: "heap_now", runs_of: "runs_now", holes_of: "holes_now", wood_of: "wood_now", shifts_of: "shifts_now",
    span_of: "span_now", shape_of: "shape_now", way_of: "way_now", slack_of: "slack_now",
}


def certain(function, told):
    """What is told without that of which any is right."""
    if function is shifts_of:
        return (told[0], [house for house, _ in told[1]] if told[0] == "shifts" else None)
    if function is most_of and told is not None:
        return (told[0], [house for house, _ in told[2]])
    return told


class Every(unittest.TestCase):

    def test_the_heaps_are_as_they_should_be(self):
        self.assertEqual(shifts_of(GOOD)[0], "shifts")
        self.assertEqual(shifts_of(BAD)[0], "ring")
        self.assertEqual(wood_of(GOOD, 9), ("ring", (1, 2)))
        self.assertTrue(is_right(GOOD, 3))
        self.assertTrue(is_right(BAD, 3))
        self.assertEqual({function for function, _, _ in CALLS}, set(NAMES))

    def test_what_is_told(self):
        self.assertEqual([certain(function, function(GOOD, *more)) for function, more, _ in CALLS], [
            ("wood", [0], [], {0: [4, 7], 4: [2]}), ("wood", [], [8], {6: [5], 8: [6]}), ("ring", (1, 2)), True, False,
            [2, 4, 0], [8], [2, 4, 7], [5, 6],
            [(0, 0, 0), (1, 1, 3), (1, 2, 5), (2, 1, 3), (2, 5, 0), (2, 6, 0), (5, 2, 17), (6, 2, 0)],
            ("shifts", [0, 1, 2, 5, 6]), True, False, False, False, (-3, 5), (None, None), (5, [0, 1, 2, 5, 6]), None,
            True, False, sorted(GOOD), True, False, [(0, -5, 0), (4, 0, 3), (2, 3, 4), (4, 4, 9), (0, 9, 12)],
            {0: 8, 2: 1, 4: 8},
            [
                make(3, 0, -1, 2, 0, -5, 17), make(3, 2, 4, 1, 1, 3, 8, True), make(3, 4, 0, 1, 0, 0, 13, True),
                make(3, 7, 0, 5, 0, 16, 94),
            ], 0, None, (None, 7, 8), True, False,
            sorted(GOOD), [1, 3, 9], [0, 1, 2, 5, 6], [(6, 0), (6, 1), (6, 2)], "2u(1j(1j),5u)",
            ("alike", [(0, 0), (2, 2), (4, 4), (7, 7)]), True, False,
        ])

    def test_in_whatever_order_and_however_often(self):
        chance = random.Random(200)
        for function, more, _ in CALLS:
            told = certain(function, function(GOOD, *more))
            for _ in range(12):
                again = function(retold(chance, GOOD), *more)
                self.assertEqual(certain(function, again), told, function)
            self.assertEqual(certain(function, function(GOOD * 37, *more)), told)

    def test_pieces_of_other_objects(self):
        heap = [tuple(list(one)) for one in GOOD * 2]
        for function, more, _ in CALLS:
            self.assertEqual(certain(function, function(heap, *more)), certain(function, function(GOOD, *more)))

    def test_by_names(self):
        for function, more, names in CALLS:
            told = certain(function, function(GOOD, *more))
            named = dict(zip(names, more))
            self.assertEqual(certain(function, function(heap=GOOD, **named)), told)
            self.assertEqual(certain(function, function(GOOD, **named)), told)
            self.assertEqual(function.__module__, f"latewood.{NAMES[function]}")

    def test_nothing_handed_in_is_changed(self):
        heap = GOOD[::-1] + GOOD[2:4]
        for function, more, _ in CALLS:
            before = copy.deepcopy((heap, more))
            function(heap, *more)
            self.assertEqual((heap, more), before)
            spoil(function(heap, *more))
            self.assertEqual((heap, more), before)

    def test_what_is_told_is_new_and_the_askers_own(self):
        for function, more, _ in CALLS:
            first, second = function(GOOD, *more), function(GOOD, *more)
            kept, certainly = copy.deepcopy(second), certain(function, second)
            spoil(first)
            self.assertEqual(second, kept)
            self.assertEqual(certain(function, function(GOOD, *more)), certainly)

    def test_nothing_handed_in_is_kept(self):
        for function, more, _ in CALLS:
            heap, things = list(GOOD), copy.deepcopy(more)
            told = function(heap, *things)
            kept = copy.deepcopy(told)
            heap.clear()
            spoil(things)
            self.assertEqual(told, kept)
            again = certain(function, function(list(GOOD), *more))
            self.assertEqual(again, certain(function, kept))

    def test_nothing_hangs_on_what_was_asked_ahead(self):
        chance = random.Random(201)
        alone = [certain(function, function(GOOD, *more)) for function, more, _ in CALLS]
        clash = GOOD + [make(3, 0, house=7)]
        for _ in range(40):
            at = chance.randrange(len(CALLS))
            function, more, _ = CALLS[at]
            for heap in (clash, BAD, [], GOOD[:3]):
                try:
                    function(heap, *more)
                except WoodError:
                    pass
            self.assertEqual(certain(function, function(GOOD, *more)), alone[at])

    def test_truths_are_truths(self):
        for function in (is_whole_run, are_shifts, is_ring, shows_most, is_right, fills, are_pairs):
            for other, more, _ in CALLS:
                if other is function:
                    self.assertIs(type(function(GOOD, *more)), bool)


class ByKeeper(unittest.TestCase):

    def keeper_of(self, heap):
        keeper = Keeper()
        for one in heap:
            keeper.tell(one)
        return keeper

    def tells_the_same(self, keeper):
        for function, more, names in CALLS:
            if function in METHODS:
                ask = getattr(keeper, METHODS[function])
                expected = certain(function, function(GOOD, *more))
                self.assertEqual(certain(function, ask(*more)), expected)
                self.assertEqual(certain(function, ask(**dict(zip(names, more)))), expected)

    def test_told_in_whatever_order_and_however_often(self):
        chance = random.Random(205)
        keepers = [self.keeper_of(retold(chance, GOOD)) for _ in range(12)]
        for keeper in keepers:
            self.tells_the_same(keeper)
            self.assertEqual(keeper, keepers[0])
            self.assertEqual(len(keeper), 8)

    def test_however_they_came(self):
        chance = random.Random(206)
        for _ in range(12):
            told = retold(chance, GOOD)
            at = chance.randrange(len(told))
            keeper = self.keeper_of(told[:at] + [make(77, 0, house=7)])
            keeper.back()
            keeper.pour(self.keeper_of(told[at:]))
            self.tells_the_same(keeper)
            again = keeper.copy()
            keeper.back()
            self.tells_the_same(again)
            again.tell(make(77, 0, house=7))
            self.assertNotEqual(again, self.keeper_of(GOOD))
            again.back()
            self.tells_the_same(again)

    def test_what_is_told_is_the_askers_own(self):
        keeper = self.keeper_of(GOOD)
        for function, more, _ in CALLS:
            if function in METHODS:
                spoil(getattr(keeper, METHODS[function])(*more))
                self.tells_the_same(keeper)


class Clashing(unittest.TestCase):

    def test_each_refuses_a_clash_ahead_of_all(self):
        by_number = (make(3, 0, -1, 2, 0, -5, 12), make(3, 0, -1, 7, 0, -5, 12))
        by_count = (make(3, 4, 0, 1, 0, 0, 9, True), make(50, 4, 0, 1, 0, 0, 9, True))
        by_time = (make(9, 2, 1, 0, 1, 0, 1, True), make(9, 2, 1, 0, 1, 0, 2, True))
        chance = random.Random(202)
        for pair in (by_number, by_count, by_time):
            for heap in (GOOD + [pair[1]], [pair[1]] + GOOD * 2, retold(chance, GOOD + [pair[1]] * 3)):
                for function, more, _ in CALLS:
                    for things in (more, (None,) * len(more), (True,) * len(more), ([],) * len(more), (50,) * len(more)):
                        with self.assertRaises(Clash) as held:
                            function(heap, *things)
                        self.assertIs(type(held.exception), Clash)
                        self.assertEqual(held.exception.pair, pair)

    def test_the_least_of_several(self):
        low, mid, high = make(0, 5, house=7), make(2, 5, house=7), make(3, 0, house=6, count=9)
        heap = [high] + GOOD + [mid, low]
        for function, more, _ in CALLS:
            before = list(heap)
            with self.assertRaises(Clash) as held:
                function(heap, *more)
            self.assertEqual(held.exception.pair, (low, mid))
            self.assertEqual(heap, before)


class Promise(unittest.TestCase):
    """What point 3 promises of all of them together."""

    def test_each_run_has_a_wood_or_a_ring(self):
        chance = random.Random(203)
        kinds = {"wood": 0, "ring": 0}
        for _ in range(200):
            numbers = chance.sample(range(100), 6)
            askers = {one: chance.choice([-1] + [other for other in numbers if other != one]) for one in numbers[:5]}
            heap = asking(askers)
            wood = wood_of(heap, 0)
            kinds[wood[0]] += 1
            if wood[0] == "ring":
                self.assertEqual(wood[1][0], min(wood[1]))
                for one, other in zip(wood[1], wood[1][1:] + wood[1][:1]):
                    self.assertEqual(askers[one], other)
                continue
            for number in numbers[:5]:
                way = way_up(heap, 0, number)
                self.assertIn(way[-1], wood[1] + wood[2])
                for low, high in zip(way, way[1:]):
                    self.assertIn(low, wood[3][high])
                    self.assertIn(number, beneath(heap, 0, high))
        self.assertGreater(min(kinds.values()), 40)

    def test_shifts_come_to_each_end_of_a_span(self):
        chance = random.Random(204)
        ends = 0
        for _ in range(100):
            heap = counted(right_run(chance, 0, 6) + right_run(chance, 1, 6))
            heap = [moved(one, 1000 * one[3]) for one in heap]
            houses = sorted({one[3] for one in heap})
            for one in houses:
                for other in houses:
                    if one == other:
                        continue
                    least, most = span_of(heap, one, other)
                    shown, back = most_of(heap, one, other), most_of(heap, other, one)
                    self.assertEqual((shown is None, back is None), (most is None, least is None))
                    if shown and back:
                        ends += 1
                        self.at(heap, shown[2], one, other, most)
                        self.at(heap, back[2], one, other, least)
        self.assertGreater(ends, 300)

    def at(self, heap, rows, one, other, end):
        """These rows are shifts at this end of the span of two houses, and one beyond it they are none."""
        self.assertTrue(are_shifts(heap, rows))
        by = dict(rows)
        self.assertEqual(by[other] - by[one], end)
        self.assertTrue(is_right(shifted(heap, rows), 0))
        self.assertTrue(is_right(shifted(heap, rows), 1))
        least, most = span_of(heap, one, other)
        step = 1 if end == most else -1
        self.assertTrue(least <= end <= most)
        beyond = [(house, shift + step * (house == other)) for house, shift in rows]
        self.assertFalse(are_shifts(heap, beyond))


if __name__ == "__main__":
    unittest.main()
