"""Point 4: of anything it is told whether it is a piece."""

import copy
import random
import unittest

from latewood.pieces import is_clash, is_piece

from helpers import clash_by_words, make, random_piece, sixty_pieces

# Of no place at a bound, so that one place alone makes it a piece or none.
MIDDLE = (50, 40, 30, 4, 500, -10, 20, True)

GOOD = (
    (0, (0, 1, 50, 98, 99)),
    (1, (0, 1, 29, 31, 98, 99)),
    (2, (0, 1, 39, 41, 98, 99)),
    (3, (0, 1, 6, 7)),
    (4, (0, 1, 998, 999)),
    (5, (20, 19, 0, -11, -10 ** 30 + 1, -10 ** 30, -10 ** 40 + 1)),
    (6, (-10, -9, 0, 21, 10 ** 30 - 1, 10 ** 30, 10 ** 40 - 1)),
    (7, (True, False)),
)

BAD = (
    (0, (-1, -2, 100, 101, 10 ** 40 - 1, -10 ** 40 + 1)),
    (1, (-1, -2, 100, 101, 30, 10 ** 40 - 1, -10 ** 40 + 1)),
    (2, (-2, -3, 100, 101, 40, 10 ** 40 - 1, -10 ** 40 + 1)),
    (3, (-1, -2, 8, 9, 10 ** 40 - 1, -10 ** 40 + 1)),
    (4, (-1, -2, 1000, 1001, 10 ** 40 - 1, -10 ** 40 + 1)),
    (5, (21, 22, 10 ** 30, 10 ** 40 - 1)),
    (6, (-11, -12, -10 ** 30, -10 ** 40 + 1)),
    (7, (0, 1, -1, 2)),
)

NO_NUMBER = (True, False, None, "", "5", "a", "-1", (), (5,), [], [5], (True,), [None], ((),))
NO_TRUTH = (None, "", "j", "u", "True", (), (True,), [], [False], ((),))


def changed(place, value, piece=MIDDLE):
    return piece[:place] + (value,) + piece[place + 1:]


class Places(unittest.TestCase):

    def yes(self, thing):
        self.assertIs(is_piece(thing), True, thing)

    def no(self, thing):
        self.assertIs(is_piece(thing), False, thing)

    def test_a_piece_is_one(self):
        self.yes(MIDDLE)
        self.yes((3, 1, 0, 2, 14, -5, 12, True))
        for piece in sixty_pieces():
            self.yes(piece)

    def test_each_place_at_its_bounds(self):
        for place, values in GOOD:
            for value in values:
                self.yes(changed(place, value))

    def test_each_place_beyond_its_bounds(self):
        for place, values in BAD:
            for value in values:
                self.no(changed(place, value))

    def test_all_places_at_their_bounds_together(self):
        self.yes((0, 0, 1, 0, 0, 0, 0, True))
        self.yes((0, 0, -1, 0, 0, 0, 0, False))
        self.yes((99, 99, 98, 7, 999, 10 ** 30 - 1, 10 ** 30 - 1, False))
        self.yes((99, 98, 99, 7, 999, -10 ** 30 + 1, 10 ** 30 - 1, True))

    def test_no_whole_number_in_a_place(self):
        for place in range(7):
            for value in NO_NUMBER:
                self.no(changed(place, value))
                self.no(changed(place, value, make(1, 1, 0, 1, 1, 0, 1, False)))

    def test_no_truth_at_the_end(self):
        for value in NO_TRUTH:
            self.no(changed(7, value))
            self.no(changed(7, value, make()))

    def test_truths_are_no_numbers_even_where_they_would_fit(self):
        ones = (1, 1, 0, 1, 1, 0, 1, False)
        self.yes(ones)
        for place in range(7):
            self.no(changed(place, bool(ones[place]), ones))

    def test_an_asker_that_is_the_own_number(self):
        for number in (0, 1, 50, 99):
            self.no(make(number=number, asker=number))
            self.no(make(number=number, asker=number, joined=True))
            self.yes(make(number=number, asker=(number + 1) % 100, joined=True))

    def test_a_top_is_not_joined(self):
        for number in (0, 1, 99):
            self.yes(make(number=number, asker=-1, joined=False))
            self.no(make(number=number, asker=-1, joined=True))

    def test_who_was_asked_may_be_joined_or_not(self):
        self.yes(make(number=1, asker=0, joined=True))
        self.yes(make(number=1, asker=0, joined=False))

    def test_begin_and_end(self):
        for low, high in ((-1, 0), (0, 1), (-10 ** 30, 10 ** 30), (10 ** 39, 10 ** 39 + 1)):
            self.yes(make(begin=low, end=high))
            self.yes(make(begin=low, end=low))
            self.yes(make(begin=high, end=high))
            self.no(make(begin=high, end=low))


class OtherThings(unittest.TestCase):

    def no(self, thing):
        self.assertIs(is_piece(thing), False)

    def test_too_short_and_too_long(self):
        for length in range(8):
            self.no(MIDDLE[:length])
            self.no(MIDDLE[8 - length:])
        for tail in ((0,), (True,), (None,), (50, 40)):
            self.no(MIDDLE + tail)
            self.no(tail + MIDDLE)
        self.no(MIDDLE * 2)

    def test_a_list_is_none(self):
        self.no(list(MIDDLE))
        self.no(list(MIDDLE[:7]))
        self.no([MIDDLE])

    def test_other_kinds(self):
        for thing in (None, True, False, 0, 8, -1, 10 ** 40 - 1, "", "3.1 0 2.14 -5 12 j", "abcdefgh"):
            self.no(thing)
            self.no((thing,))
            self.no([thing])
            self.no((thing,) * 8)
            self.no([thing] * 8)

    def test_pieces_within_others(self):
        self.no((MIDDLE,))
        self.no((MIDDLE,) * 8)
        for place in range(8):
            self.no(changed(place, MIDDLE))

    def test_deep_and_long_things(self):
        deep_tuple, deep_list = (), []
        for _ in range(19):
            deep_tuple, deep_list = (deep_tuple,), [deep_list]
        self.no(deep_tuple)
        self.no(deep_list)
        for place in range(8):
            self.no(changed(place, deep_tuple))
            self.no(changed(place, deep_list))
        self.no((0,) * 20000)
        self.no([0] * 20000)

    def test_nothing_handed_in_is_changed(self):
        for thing in ([1, [2, (3,)]], changed(2, [1, [2]]), list(MIDDLE), MIDDLE):
            before = copy.deepcopy(thing)
            is_piece(thing)
            self.assertEqual(thing, before)

    def test_asked_again_it_is_the_same(self):
        for _ in range(3):
            self.assertIs(is_piece(thing=MIDDLE), True)
            self.no(list(MIDDLE))
            self.no(changed(0, True))


class Clashing(unittest.TestCase):

    def test_as_the_words_tell(self):
        chance = random.Random(4)
        found = [0, 0]
        for _ in range(3000):
            one, other = [random_piece(chance, 2, 4, 2, 4) for _ in range(2)]
            told = is_clash(one, other)
            self.assertIs(told, clash_by_words(one, other))
            self.assertIs(is_clash(other, one), told)
            self.assertIs(is_clash(one, one), False)
            found[told] += 1
        self.assertGreater(min(found), 100)


if __name__ == "__main__":
    unittest.main()
