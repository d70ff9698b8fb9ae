"""The refusals that the interface lists under latewood/errors.py."""

import copy
import unittest

from latewood import errors
from latewood.errors import Clash, NoText, WoodError

from helpers import make

OF_A_TEXT = (
    "NoPiece", "TooMany", "NoRun", "NoWood", "NoHouse", "NoShifts", "NotRight", "NoMore", "NotOne",
    "NoGap", "NoDealing", "NoPlace", "NotWhole", "NoBack", "NoRow",
)


def class_of(name):
    return getattr(errors, name)


def examples():
    """One object of each class right under WoodError."""
    made = [class_of(name)("a text") for name in OF_A_TEXT]
    return made + [Clash((make(), make(count=1))), NoText(3)]


class Classes(unittest.TestCase):

    def test_wood_error_is_right_under_value_error(self):
        self.assertEqual(WoodError.__bases__, (ValueError,))
        self.assertEqual(WoodError.__module__, "latewood.errors")

    def test_each_class_is_right_under_wood_error(self):
        for name in OF_A_TEXT + ("Clash", "NoText"):
            with self.subTest(name=name):
                self.assertEqual(class_of(name).__bases__, (WoodError,))
                self.assertEqual(class_of(name).__module__, "latewood.errors")
                self.assertEqual(class_of(name).__name__, name)

    def test_each_error_is_of_its_own_class_alone(self):
        for one in examples():
            self.assertIsInstance(one, ValueError)
            self.assertIsInstance(one, WoodError)
            for other in examples():
                if type(one) is not type(other):
                    self.assertNotIsInstance(one, type(other))

    def test_each_can_be_raised_and_caught(self):
        for error in examples():
            for caught in (type(error), WoodError, ValueError):
                with self.assertRaises(caught) as held:
                    raise error
                self.assertIs(held.exception, error)


class Texts(unittest.TestCase):

    def test_a_text_is_kept_as_the_message(self):
        for name in OF_A_TEXT + ("WoodError",):
            for text in ("", "a text", "word 3"):
                self.assertEqual(str(class_of(name)(text)), text)

    def test_clash_and_no_text_have_a_message(self):
        self.assertTrue(str(Clash((make(), make(count=1)))))
        self.assertTrue(str(NoText(0)))


class Fields(unittest.TestCase):

    def test_clash_has_its_pair(self):
        pair = (make(), make(count=1))
        self.assertIs(Clash(pair).pair, pair)
        self.assertIs(Clash(pair=pair).pair, pair)

    def test_no_text_has_its_place(self):
        for at in (0, 1, 6, 20000):
            self.assertEqual(NoText(at).at, at)
            self.assertEqual(NoText(at=at).at, at)

    def test_each_object_has_its_own_field(self):
        first = Clash((make(), make(count=1)))
        second = Clash((make(run=1), make(run=1, count=1)))
        self.assertEqual(first.pair, (make(), make(count=1)))
        self.assertEqual(second.pair, (make(run=1), make(run=1, count=1)))
        low, high = NoText(2), NoText(5)
        self.assertEqual((low.at, high.at), (2, 5))
        self.assertFalse(hasattr(Clash, "pair"))
        self.assertFalse(hasattr(NoText, "at"))

    def test_a_copy_has_the_field_too(self):
        pair = (make(), make(count=1))
        self.assertEqual(copy.copy(Clash(pair)).pair, pair)
        self.assertEqual(copy.copy(NoText(4)).at, 4)

    def test_the_field_is_needed(self):
        for cls in (Clash, NoText):
            with self.assertRaises(TypeError):
                cls()


if __name__ == "__main__":
    unittest.main()
