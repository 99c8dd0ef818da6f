"""Points 1, 13, 19, 23 and 35: the refusals' classes."""

import unittest

from ladingchain import errors
from ladingchain.errors import Broken, LadingError

NAMES = (
    "BadForm", "DayFalls", "NoSuch", "NameTaken", "Spent", "Broken", "NotYours", "NotOrder", "Stopped",
    "WrongTons", "OtherParcel", "NotOwed", "StopStands", "NoStop", "Full", "Struck", "DayOver", "NamedLater",
)


def class_of(name):
    return getattr(errors, name)


def made(name):
    return Broken(3) if name == "Broken" else class_of(name)("some words")


class TheBase(unittest.TestCase):
    def test_stands_straight_under_value_error(self):
        self.assertEqual(LadingError.__bases__, (ValueError,))


class EachRefusal(unittest.TestCase):
    def test_there_are_eighteen_classes(self):
        self.assertEqual(len({class_of(name) for name in NAMES}), 18)

    def test_bears_its_own_name(self):
        for name in NAMES:
            with self.subTest(name):
                self.assertEqual(class_of(name).__name__, name)

    def test_is_caught_as_itself_as_lading_error_and_as_value_error(self):
        for name in NAMES:
            for caught in (class_of(name), LadingError, ValueError):
                with self.subTest(name, caught=caught):
                    with self.assertRaises(caught):
                        raise made(name)

    def test_stands_straight_under_lading_error(self):
        for name in NAMES:
            with self.subTest(name):
                self.assertEqual(class_of(name).__bases__, (LadingError,))

    def test_stands_under_no_other_refusal(self):
        for name in NAMES:
            for other in NAMES:
                if other != name:
                    with self.subTest(name, other=other):
                        self.assertNotIsInstance(made(name), class_of(other))
                        self.assertFalse(issubclass(class_of(name), class_of(other)))


class BrokenPlace(unittest.TestCase):
    def test_is_the_number_that_it_was_made_with(self):
        for place in (1, 2, 7, 12):
            with self.subTest(place):
                self.assertEqual(Broken(place).place, place)
                self.assertIs(type(Broken(place).place), int)

    def test_is_still_there_when_it_is_caught(self):
        with self.assertRaises(LadingError) as caught:
            raise Broken(4)
        self.assertEqual(caught.exception.place, 4)

    def test_is_each_object_s_own(self):
        first = Broken(1)
        second = Broken(2)
        self.assertEqual((first.place, second.place), (1, 2))

    def test_no_other_refusal_has_one(self):
        for name in NAMES:
            if name != "Broken":
                with self.subTest(name):
                    self.assertFalse(hasattr(made(name), "place"))


if __name__ == "__main__":
    unittest.main()
