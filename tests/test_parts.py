"""Point 18: bounds for all values where a part alone was kept, and dealings by which they are come to."""

import copy
import random
import unittest
from itertools import combinations_with_replacement

from latewood.errors import NoDealing, NoPlace
from latewood.parts import over_bounds, over_dealing, place_bounds, place_dealing

from helpers import FAR_NUMBERS, NO_NUMBERS, nested

FAR = 10 ** 40 - 1


def dealings(many, low, high, total):
    """All dealings, by going through all sorted values."""
    return [
        list(dealing) for dealing in combinations_with_replacement(range(low, high + 1), many)
        if total is None or sum(dealing) == total
    ]


def value_at(kept, dealing, place):
    return sorted(kept + dealing)[place]


def over(kept, dealing, number):
    return sum(value >= number for value in kept + dealing)


class Parts(unittest.TestCase):

    def is_dealing(self, values, dealing):
        """It is a dealing of the values (kept, many, low, high, total)."""
        _, many, low, high, total = values
        self.assertIs(type(dealing), list)
        self.assertEqual(len(dealing), many)
        self.assertEqual(dealing, sorted(dealing))
        self.assertTrue(all(type(value) is int and low <= value <= high for value in dealing))
        if total is not None:
            self.assertEqual(sum(dealing), total)

    def place(self, values, place, least, most):
        """The value at the place is from least to most, and the told dealings come to these."""
        self.assertEqual(place_bounds(*values, place), (least, most))
        self.assertIs(type(place_bounds(*values, place)), tuple)
        for dealing, end in (
                (place_dealing(*values, place), least), (place_dealing(*values, place, False), least),
                (place_dealing(*values, place, True), most), (place_dealing(*values, place, greatest=True), most)):
            self.is_dealing(values, dealing)
            self.assertEqual(value_at(values[0], dealing, place), end)

    def over(self, values, number, least, most):
        """From least to most values are no less than the number, and the told dealings come to these."""
        self.assertEqual(over_bounds(*values, number), (least, most))
        self.assertIs(type(over_bounds(*values, number)), tuple)
        for dealing, end in (
                (over_dealing(*values, number), least), (over_dealing(*values, number, False), least),
                (over_dealing(*values, number, True), most), (over_dealing(*values, number, greatest=True), most)):
            self.is_dealing(values, dealing)
            self.assertEqual(over(values[0], dealing, number), end)

    def test_none_kept(self):
        values = ([], 4, 0, 10, 20)
        for place, least, most in ((0, 0, 5), (1, 0, 6), (2, 4, 10), (3, 5, 10)):
            self.place(values, place, least, most)
        for number, least, most in ((0, 4, 4), (1, 2, 4), (5, 1, 4), (6, 0, 3), (7, 0, 2), (10, 0, 2), (11, 0, 0)):
            self.over(values, number, least, most)

    def test_kept_alone(self):
        for total in (0, None):
            for low, high in ((0, 0), (-5, 100), (50, 60)):
                values = ([7, -3, 7, 20], 0, low, high, total)
                for place, value in enumerate([-3, 7, 7, 20]):
                    self.place(values, place, value, value)
                for number, many in ((-9, 4), (-3, 4), (-2, 3), (7, 3), (8, 1), (20, 1), (21, 0), (FAR, 0), (-FAR, 4)):
                    self.over(values, number, many, many)

    def test_kept_and_not(self):
        values = ([3, 8, 1], 2, 0, 10, 6)
        for place, least, most in ((0, 0, 1), (1, 1, 3), (2, 3, 3), (3, 3, 6), (4, 8, 8)):
            self.place(values, place, least, most)
        for number, least, most in ((0, 5, 5), (1, 4, 5), (2, 3, 4), (3, 3, 4), (4, 1, 2), (6, 1, 2), (7, 1, 1), (8, 1, 1)):
            self.over(values, number, least, most)
        self.over(values, 9, 0, 0)

    def test_kept_beyond_low_and_high(self):
        values = ([-50, 90], 2, 0, 10, 12)
        for place, least, most in ((0, -50, -50), (1, 2, 6), (2, 6, 10), (3, 90, 90)):
            self.place(values, place, least, most)
        for number, least, most in ((-60, 4, 4), (-50, 4, 4), (-49, 3, 3), (2, 3, 3), (3, 2, 3), (6, 2, 3), (7, 1, 2)):
            self.over(values, number, least, most)
        for number, least, most in ((10, 1, 2), (11, 1, 1), (90, 1, 1), (91, 0, 0)):
            self.over(values, number, least, most)

    def test_low_and_high_alike(self):
        values = ([1, 9], 3, 5, 5, 15)
        for place, value in enumerate([1, 5, 5, 5, 9]):
            self.place(values, place, value, value)
            self.place(values[:4] + (None,), place, value, value)
        for number, many in ((1, 5), (2, 4), (5, 4), (6, 1), (9, 1), (10, 0)):
            self.over(values, number, many, many)
            self.over(values[:4] + (None,), number, many, many)

    def test_any_total(self):
        values = ([4, 12], 3, 0, 10, None)
        for place, least, most in ((0, 0, 4), (1, 0, 10), (2, 0, 10), (3, 4, 10), (4, 12, 12)):
            self.place(values, place, least, most)
        for number, least, most in ((0, 5, 5), (1, 2, 5), (4, 2, 5), (5, 1, 4), (10, 1, 4), (11, 1, 1), (13, 0, 0)):
            self.over(values, number, least, most)

    def test_the_very_least_and_greatest_totals(self):
        for total, value in ((-6, -2), (21, 7)):
            values = ([0, 3], 3, -2, 7, total)
            for place, end in enumerate(sorted([0, 3] + [value] * 3)):
                self.place(values, place, end, end)
            for number in range(-4, 10):
                many = sum(one >= number for one in [0, 3] + [value] * 3)
                self.over(values, number, many, many)

    def test_one_that_was_not_kept(self):
        for total in (3, 0, 9):
            values = ([5], 1, 0, 9, total)
            self.place(values, 0, min(5, total), min(5, total))
            self.place(values, 1, max(5, total), max(5, total))

    def test_totals_that_leave_a_rest(self):
        values = ([], 3, 0, 100, 100)
        for place, least, most in ((0, 0, 33), (1, 0, 50), (2, 34, 100)):
            self.place(values, place, least, most)
        values = ([], 3, -100, 0, -100)
        for place, least, most in ((0, -100, -34), (1, -50, 0), (2, -33, 0)):
            self.place(values, place, least, most)

    def test_by_going_through_all_dealings(self):
        chance = random.Random(180)
        for _ in range(700):
            many, low = chance.randrange(5), chance.randrange(-6, 6)
            high = low + chance.randrange(6)
            kept = [chance.randrange(-9, 12) for _ in range(chance.randrange(5))]
            total = chance.choice([None, chance.randint(many * low, many * high)])
            values = (kept, many, low, high, total)
            every = dealings(many, low, high, total)
            for place in range(len(kept) + many):
                seen = [value_at(kept, dealing, place) for dealing in every]
                self.place(values, place, min(seen), max(seen))
            for number in range(-12, 15):
                seen = [over(kept, dealing, number) for dealing in every]
                self.over(values, number, min(seen), max(seen))

    def test_the_kept_in_any_order(self):
        chance = random.Random(181)
        kept = [3, 3, -8, 12, 0, 7, 7, 40]
        for _ in range(20):
            chance.shuffle(kept)
            values, before = (kept, 5, -3, 9, 11), list(kept)
            self.assertEqual([place_bounds(*values, place) for place in range(13)], [
                (-8, -8), (-3, 0), (-3, 2), (-2, 3), (0, 3), (1, 3), (3, 5), (3, 7), (3, 7), (7, 9), (7, 9), (12, 12), (40, 40),
            ])
            self.assertEqual([over_bounds(*values, number) for number in (-8, -3, 0, 3, 8, 12, 41)], [
                (13, 13), (12, 12), (9, 12), (7, 10), (2, 4), (2, 2), (0, 0),
            ])
            self.assertEqual(kept, before)

    def test_forty_kept_and_a_thousand_that_were_not(self):
        chance = random.Random(182)
        for low, high in ((-FAR, FAR), (0, 10 ** 39), (-5, 5), (FAR - 1, FAR), (-FAR, -FAR)):
            kept = [chance.randint(-FAR, FAR) for _ in range(20)] + [chance.randint(low, high) for _ in range(20)]
            for total in (None, 1000 * low, 1000 * high, chance.randint(1000 * low, 1000 * high), 500 * (low + high)):
                values = (kept, 1000, low, high, total)
                for place in (0, 1, 19, 39, 40, 41, 500, 519, 520, 999, 1000, 1001, 1038, 1039):
                    least, most = place_bounds(*values, place)
                    self.assertLessEqual(least, most)
                    self.place(values, place, least, most)
                    # So many values can be no less than the most, not one more; and none of these than one beyond it.
                    self.assertGreaterEqual(over_bounds(*values, most)[1], 1040 - place)
                    self.assertLess(over_bounds(*values, most + 1)[1], 1040 - place)
                    self.assertGreaterEqual(over_bounds(*values, least)[0], 1040 - place)
                    self.assertLess(over_bounds(*values, least + 1)[0], 1040 - place)
                for number in (-FAR, low, low + 1, (low + high) // 2, high, high + 1, FAR, kept[0], kept[30]):
                    least, most = over_bounds(*values, number)
                    self.over(values, number, least, most)

    def test_numbers_of_forty_figures(self):
        values = ([], 1000, 0, FAR, FAR)
        self.place(values, 0, 0, FAR // 1000)
        self.place(values, 999, FAR // 1000 + 1, FAR)
        self.place(values, 998, 0, FAR // 2)
        self.over(values, 1, 1, 1000)
        self.over(values, FAR, 0, 1)
        self.over(values, FAR // 2, 0, 2)
        self.over(values, FAR // 3 + 1, 0, 2)
        self.over(values, FAR // 3, 0, 3)
        values = ([-FAR, FAR], 2, -FAR, FAR, 0)
        for place, least, most in ((0, -FAR, -FAR), (1, -FAR, 0), (2, 0, FAR), (3, FAR, FAR)):
            self.place(values, place, least, most)

    def test_somewhat_beyond_the_limits(self):
        kept = list(range(-30, 30))
        values = (kept, 1500, -100, 100, 0)
        self.place(values, 0, -100, -30)
        self.place(values, 1559, 29, 100)
        self.over(values, 1, 29, 29 + 1485)

    def test_numbers_below_all_above_all_kept_ones_and_between(self):
        values = ([2, 5, 5, 40], 3, 0, 20, 30)
        for number in (-100, -1, 0):
            self.over(values, number, 7, 7)
        for number in (41, 42, 100):
            self.over(values, number, 0, 0)
        self.over(values, 40, 1, 1)
        self.over(values, 21, 1, 1)
        self.over(values, 20, 1, 2)
        self.over(values, 5, 3 + 2, 3 + 3)
        self.over(values, 6, 1 + 1, 1 + 3)
        self.over(values, 2, 4 + 2, 4 + 3)
        self.over(values, 3, 3 + 2, 3 + 3)
        self.over(values, 11, 1 + 0, 1 + 2)

    def test_what_is_told_is_new_and_nothing_is_changed(self):
        kept = [5, 1, 9]
        calls = [
            (place_dealing, (kept, 3, 0, 5, 7, 2)), (place_dealing, (kept, 3, 0, 5, 7, 2, True)),
            (over_dealing, (kept, 3, 0, 5, 7, 2)), (over_dealing, (kept, 3, 0, 5, 7, 2, True)),
            (place_dealing, (kept, 0, 0, 5, None, 2)), (over_dealing, (kept, 0, 0, 5, None, 2, True)),
        ]
        for function, things in calls:
            before = copy.deepcopy(things)
            first, second = function(*things), function(*things)
            self.assertEqual(first, second)
            self.assertIsNot(first, second)
            self.assertIsNot(first, kept)
            first.append(77)
            self.assertNotEqual(first, second)
            self.assertEqual(function(*things), second)
            self.assertEqual(things, before)
        for function in (place_bounds, over_bounds):
            self.assertEqual(function(kept, 3, 0, 5, 7, 2), function(kept[::-1], 3, 0, 5, 7, 2))
            self.assertEqual(kept, [5, 1, 9])

    def test_by_names(self):
        values = {"kept": [1, 4], "many": 2, "low": 0, "high": 9, "total": 9}
        told = ([1, 4], 2, 0, 9, 9)
        self.assertEqual(place_bounds(place=1, **values), place_bounds(*told, 1))
        self.assertEqual(place_bounds(*told, 1), (1, 4))
        self.assertEqual(over_bounds(number=5, **values), over_bounds(*told, 5))
        self.assertEqual(over_bounds(*told, 5), (1, 1))
        for greatest in (True, False):
            dealing = place_dealing(greatest=greatest, place=0, **values)
            self.assertEqual(value_at([1, 4], dealing, 0), 1 if greatest else 0)
            dealing = over_dealing(greatest=greatest, number=2, **values)
            self.assertEqual(over([1, 4], dealing, 2), 3 if greatest else 2)


class Refusals(unittest.TestCase):

    def refused(self, cls, function, *things):
        with self.assertRaises(cls, msg=repr(things)[:99]) as held:
            function(*things)
        self.assertIs(type(held.exception), cls)

    def test_no_dealing(self):
        for many, low, high, total in (
                (3, 0, 5, 16), (3, 0, 5, -1), (3, 2, 5, 5), (3, -5, -2, -5), (3, -5, -2, -16), (0, 0, 5, 1), (0, 0, 5, -1),
                (0, 3, 5, 3), (1, 3, 3, 4), (1, 3, 3, 2), (1000, -FAR, FAR, 1000 * FAR + 1), (2, 0, FAR, -FAR), (2, 1, 1, 0),
                (2, 1, 2, 5)):
            for kept in ([4], [4, 4, -9], [total]):
                values = (kept, many, low, high, total)
                for place in range(min(3, len(kept) + many)):
                    self.refused(NoDealing, place_bounds, *values, place)
                    self.refused(NoDealing, place_dealing, *values, place)
                    self.refused(NoDealing, place_dealing, *values, place, True)
                for number in (-FAR, 0, 4, FAR):
                    self.refused(NoDealing, over_bounds, *values, number)
                    self.refused(NoDealing, over_dealing, *values, number)
                    self.refused(NoDealing, over_dealing, *values, number, True)
            self.refused(NoDealing, over_bounds, [], many, low, high, total, 1)

    def test_totals_at_the_ends_are_none_such(self):
        for total in (0, 15, None, 7):
            self.assertEqual(len(over_dealing([], 3, 0, 5, total, 2)), 3)
        for total in (0, None):
            self.assertEqual(over_dealing([1], 0, 3, 5, total, 2), [])
            self.assertEqual(place_dealing([1], 0, 3, 5, total, 0), [])

    def test_no_place(self):
        others = NO_NUMBERS + FAR_NUMBERS + (nested(20), nested(20, list), (0,) * 20000, [0] * 20000, "0", -3)
        # Behind these totals there is a dealing, or none: NoPlace goes ahead.
        for total in (None, 6, -1, 100):
            for place in others + (5, 6, 1000):
                self.refused(NoPlace, place_bounds, [1, 8], 3, 0, 4, total, place)
                self.refused(NoPlace, place_dealing, [1, 8], 3, 0, 4, total, place)
                self.refused(NoPlace, place_dealing, [1, 8], 3, 0, 4, total, place, True)
        for place in others + (0, 1):
            self.refused(NoPlace, place_bounds, [], 0, 0, 4, None, place)
            self.refused(NoPlace, place_bounds, [], 0, 0, 4, 7, place)
            self.refused(NoPlace, place_dealing, [], 0, 0, 4, 0, place)
        for place in (2, 3):
            self.refused(NoPlace, place_bounds, [3, 4], 0, 0, 4, None, place)
            self.refused(NoPlace, place_bounds, [], 2, 0, 4, None, place)

    def test_the_first_place_and_the_last_one(self):
        self.assertEqual(place_bounds([1, 8], 3, 0, 4, 6, 0), (0, 1))
        self.assertEqual(place_bounds([1, 8], 3, 0, 4, 6, 4), (8, 8))
        self.assertEqual(over_bounds([], 0, 0, 4, None, 3), (0, 0))
        self.assertEqual(over_dealing([], 0, 0, 4, 0, 3), [])


if __name__ == "__main__":
    unittest.main()
