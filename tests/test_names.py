"""Names and integers (points 2 and 3, stage 1 of the interface)."""

import unittest

from layoutswap import names
from layoutswap.names import is_integer, is_name
from things import DEEP, LARGE

NO_STRINGS = (
    None, True, False, 0, 1, -1, (), ("a",), [], ["a"], ["a", "b"], {}, {"a": 1}, (("leaf", 0), ("join", 2)), b"a",
)


class Names(unittest.TestCase):
    def test_names_of_one_to_eight_signs(self):
        for size in range(1, 9):
            for word in ("abcdefgh"[:size], "z" * size, "a" + "9" * (size - 1), "z0y1x2w3"[:size]):
                with self.subTest(word):
                    self.assertIs(is_name(word), True)

    def test_each_letter_stands_first_and_each_sign_behind(self):
        for letter in "abcdefghijklmnopqrstuvwxyz":
            self.assertIs(is_name(letter), True)
            self.assertIs(is_name("a" + letter), True)
        for digit in "0123456789":
            self.assertIs(is_name(digit), False)
            self.assertIs(is_name(digit + "a"), False)
            self.assertIs(is_name("a" + digit), True)

    def test_nothing_and_nine_signs_and_more(self):
        for word in ("", "abcdefghi", "a12345678", "a" * 9, "a" * 10000):
            with self.subTest(len(word)):
                self.assertIs(is_name(word), False)

    def test_signs_that_no_name_has(self):
        fit = set("abcdefghijklmnopqrstuvwxyz0123456789")
        others = [chr(code) for code in range(0x250) if chr(code) not in fit]
        others += ["\u0430", "\u0661", "\u00b2", "\uff41", "\ufb01", "\u2028"]
        for sign in others:
            for word in (sign, sign + "ab", "a" + sign + "b", "ab" + sign, "abcdefg" + sign):
                with self.subTest(word):
                    self.assertIs(is_name(word), False)

    def test_capitals(self):
        for word in ("A", "Leaf", "leaF", "lEaf", "LEAF"):
            self.assertIs(is_name(word), False)

    def test_a_line_feed_at_any_place(self):
        for at in range(5):
            word = "leaf"[:at] + "\n" + "leaf"[at:]
            with self.subTest(word):
                self.assertIs(is_name(word), False)
        for word in ("\n", "a\n", "\na", "abcdefgh\n"):
            self.assertIs(is_name(word), False)

    def test_no_strings(self):
        for thing in NO_STRINGS + DEEP + LARGE:
            self.assertIs(is_name(thing), False)

    def test_nothing_is_modified(self):
        thing = ["a", ("b",), {"c": []}]
        self.assertIs(is_name(thing), False)
        self.assertEqual(thing, ["a", ("b",), {"c": []}])


class Integers(unittest.TestCase):
    def test_integers(self):
        for number in (0, 1, -1, 2, 40, -400, 10 ** 40, -(10 ** 50) + 1):
            with self.subTest(number):
                self.assertIs(is_integer(number), True)

    def test_bools_are_none(self):
        self.assertIs(is_integer(True), False)
        self.assertIs(is_integer(False), False)

    def test_other_things_are_none(self):
        for thing in ("", "0", "1", "-1", "a", None, [], [1], (), (1,), {}, {1: 1}, b"1") + DEEP + LARGE:
            self.assertIs(is_integer(thing), False)


class TheFile(unittest.TestCase):
    def test_each_function_is_defined_in_its_file(self):
        for function in (names.is_name, names.is_integer):
            self.assertEqual(function.__module__, "layoutswap.names")


if __name__ == "__main__":
    unittest.main()
