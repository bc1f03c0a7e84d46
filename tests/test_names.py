"""is_integer and is_name, of any object."""

import unittest

from metnumbers.names import is_integer, is_name
from tests.odd_things import odd_things

NAMES = ["a", "z", "ann", "ann2", "a0", "z9", "b12345", "bcdefghi", "abcdefg8", "mnopqrst", "uvwxyz01"]
NO_NAMES = [
    "", "abcdefghi", "a" * 9, "a" * 5000, "2ann", "0", "9a", "Ann", "aNn", "anN", "A", "Z",
    " ", "a b", " a", "a ", "a\n", "\na", "\n", "a\t", "a_b", "_a", "a-b", "a.", "a?", "a,", "a;", "a/", "a:",
    # The signs just ahead of and behind the digits, the uppercase and the lowercase letters.
    "a/0", "a:0", "a@", "a[", "a`", "a{", "{", "`", "a|", "a~", "~",
    # Digits and letters elsewhere, which some of Python's own tests take for such.
    "a\u00b2", "\u00e9", "a\u00df", "\u0661", "a\u0661", "\uff41",
]


class IsIntegerTest(unittest.TestCase):
    def test_integers(self):
        for thing in [0, 1, -1, 7, 20, 21, 10**12, -(10**12), 10**30]:
            self.assertIs(is_integer(thing), True, thing)

    def test_bools_are_none(self):
        self.assertIs(is_integer(True), False)
        self.assertIs(is_integer(False), False)

    def test_other_objects(self):
        for thing in [None, "", "1", "0", "a", (), (1,), [], [1], {}, {1: 1}, ((1, 2), [3])]:
            self.assertIs(is_integer(thing), False, thing)


class IsNameTest(unittest.TestCase):
    def test_names(self):
        for thing in NAMES:
            self.assertIs(is_name(thing), True, thing)

    def test_strings_that_are_none(self):
        for thing in NO_NAMES:
            self.assertIs(is_name(thing), False, repr(thing))

    def test_each_sign_first_and_later(self):
        letters = "abcdefghijklmnopqrstuvwxyz"
        for code in range(128):
            sign = chr(code)
            self.assertIs(is_name(sign), sign in letters, repr(sign))
            self.assertIs(is_name("a" + sign), sign in letters + "0123456789", repr(sign))
            self.assertIs(is_name("bcdefgh" + sign), sign in letters + "0123456789", repr(sign))

    def test_lengths(self):
        self.assertEqual([is_name("a" * many) for many in range(11)], [False] + 8 * [True] + [False, False])

    def test_other_objects(self):
        for thing in [None, True, False, 0, 1, 12, (), ("a",), ("a", "b"), [], ["a"], {}, {"a": 1}]:
            self.assertIs(is_name(thing), False, thing)

    def test_objects_of_any_form(self):
        for thing in odd_things():
            self.assertIs(is_name(thing), thing in ("a", "ann"))


if __name__ == "__main__":
    unittest.main()
