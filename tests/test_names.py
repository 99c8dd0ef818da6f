"""Points 2, 3 and 25: names, papers' texts and the constants beside them."""

import string
import unittest

from ladingchain.errors import BadForm
from ladingchain.names import KINDS, LAST_DAY, MOST_TONS, good_name, read_paper

PRINTED = [chr(code) for code in range(ord(" "), ord("~") + 1)]
NO_LETTERS = [sign for sign in PRINTED if sign not in string.ascii_lowercase]
NAMED_SIGNS = ["A", "M", "Z", "0", "1", "9", " ", "-", "_", "/", ".", "@", "[", "~", "`", "{"]
GOOD_NAMES = ["a", "z", "ab", "abc", "zebra", "abcdefghijk", "abcdefghijkl", "opqrstuvwxyz"]
BAD_NAMES = ["", "abcdefghijklm", "Abc", "aBc", "abC", "a1", "a b", " abc", "abc ", "-", "a-b", "a`b", "{", "/"]


class Constants(unittest.TestCase):
    def test_kinds(self):
        self.assertEqual(KINDS, ("named", "order", "holder"))
        self.assertIs(type(KINDS), tuple)

    def test_last_day(self):
        self.assertEqual(LAST_DAY, 100000)
        self.assertIs(type(LAST_DAY), int)

    def test_most_tons(self):
        self.assertEqual(MOST_TONS, 1000000000)
        self.assertIs(type(MOST_TONS), int)


class GoodName(unittest.TestCase):
    def test_each_small_letter(self):
        for letter in string.ascii_lowercase:
            for text in (letter, letter * 12, "m" + letter + "m"):
                with self.subTest(text):
                    self.assertIs(good_name(text), True)

    def test_good_names(self):
        for text in GOOD_NAMES:
            with self.subTest(text):
                self.assertIs(good_name(text), True)

    def test_lengths(self):
        for length in range(16):
            with self.subTest(length):
                self.assertIs(good_name("abcdefghijklmnop"[:length]), 1 <= length <= 12)

    def test_bad_names(self):
        for text in BAD_NAMES:
            with self.subTest(text):
                self.assertIs(good_name(text), False)

    def test_the_named_signs_are_among_those_tried(self):
        self.assertEqual([sign for sign in NAMED_SIGNS if sign not in NO_LETTERS], [])

    def test_one_sign_that_is_no_small_letter_at_any_place(self):
        for sign in NO_LETTERS:
            for text in (sign, sign + "bcd", "ab" + sign + "cd", "abc" + sign, "abcdefghijk" + sign):
                with self.subTest(text):
                    self.assertIs(good_name(text), False)


class ReadPaper(unittest.TestCase):
    def assert_refused(self, text):
        with self.subTest(text):
            with self.assertRaises(BadForm) as caught:
                read_paper(text)
            self.assertIs(type(caught.exception), BadForm)

    def assert_read(self, text, name, number):
        with self.subTest(text):
            told = read_paper(text)
            self.assertEqual(told, (name, number))
            self.assertEqual([type(part) for part in told], [str, int])
            self.assertIs(type(told), tuple)

    def test_a_note(self):
        for name in GOOD_NAMES:
            self.assert_read(name, name, 0)

    def test_a_copy(self):
        for name in GOOD_NAMES:
            for number in (1, 2, 3):
                self.assert_read(f"{name}/{number}", name, number)

    def test_the_empty_text(self):
        self.assert_refused("")

    def test_a_bad_name_with_and_without_a_number(self):
        for name in BAD_NAMES:
            self.assert_refused(name)
            for number in (1, 2, 3):
                self.assert_refused(f"{name}/{number}")

    def test_one_bad_sign_within_a_copy_s_name(self):
        for sign in NO_LETTERS:
            for name in (sign + "bc", "a" + sign + "c", "ab" + sign):
                self.assert_refused(name + "/1")

    def test_a_bad_ending_behind_a_good_name(self):
        endings = ["/0", "/4", "/", "/11", "1", "/ 1", "/1 ", "//1", "/01", "/a", "/-1", "-1", "/1/1"]
        more = ["/1/", "/1/2", "/12", "/+1", "/1a", " /1", "/", "//", "/1.", "/1-", "2", "3", "|1"]
        for name in GOOD_NAMES:
            for ending in endings + more:
                self.assert_refused(name + ending)

    def test_any_one_sign_behind_the_stroke_but_the_three_numbers(self):
        for sign in PRINTED:
            if sign not in "123":
                self.assert_refused("abc/" + sign)

    def test_any_one_sign_in_the_place_of_the_stroke(self):
        for sign in PRINTED:
            if sign != "/":
                self.assert_refused("abc" + sign + "1")

    def test_a_number_without_a_name(self):
        for text in ("/", "/1", "/2", "/3", "1", "//1", "1/1", "/abc", "1/abc"):
            self.assert_refused(text)


if __name__ == "__main__":
    unittest.main()
