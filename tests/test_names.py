"""[0.1], [0.7], [1.3]: integers and names."""

import unittest

from joinmore.base import names
from joinmore.base.names import is_integer, is_name
from tests.cases import strange


class Integers(unittest.TestCase):
    def test_example(self):
        told = [is_integer(-3), is_integer(True), is_integer(10 ** 60), is_name("ann"), is_name("Ann"), is_name("")]
        self.assertEqual(told, [True, False, False, True, False, False])

    def test_sixty_digits(self):
        for value in (0, 1, -1, 5, 10 ** 9, 10 ** 59, 10 ** 60 - 1, -10 ** 59, 1 - 10 ** 60):
            self.assertIs(is_integer(value), True, value)
        for value in (10 ** 60, 10 ** 60 + 1, 10 ** 99, -10 ** 60, -10 ** 60 - 1, -10 ** 99):
            self.assertIs(is_integer(value), False, value)

    def test_true_and_false_are_none(self):
        self.assertIs(is_integer(True), False)
        self.assertIs(is_integer(False), False)

    def test_other_kinds(self):
        for value in strange():
            expected = value.__class__ is int and abs(value) < 10 ** 60
            self.assertIs(is_integer(value), expected)


class Names(unittest.TestCase):
    def test_bound(self):
        self.assertEqual(names.MAX_LETTERS, 8)

    def test_lengths(self):
        self.assertIs(is_name(""), False)
        self.assertIs(is_name("a"), True)
        self.assertIs(is_name("z"), True)
        self.assertIs(is_name("abcdefgh"), True)
        self.assertIs(is_name("abcdefghi"), False)
        self.assertIs(is_name("z" * 8), True)
        self.assertIs(is_name("z" * 9), False)
        self.assertIs(is_name("a" * 4000), False)

    def test_letters(self):
        for letter in "abcdefghijklmnopqrstuvwxyz":
            self.assertIs(is_name(letter), True, letter)
            self.assertIs(is_name("x" + letter), True, letter)
        for code in list(range(32, 127)) + [10]:
            letter = chr(code)
            if letter not in "abcdefghijklmnopqrstuvwxyz":
                for text in (letter, letter + "a", "a" + letter, "a" + letter + "a"):
                    self.assertIs(is_name(text), False, text)

    def test_other_kinds(self):
        for value in strange():
            expected = value in ("a", "b", "abc") if isinstance(value, str) else False
            self.assertIs(is_name(value), expected)
        self.assertIs(is_name(("a",)), False)
        self.assertIs(is_name(["a"]), False)
        self.assertIs(is_name({"a": "a"}), False)


if __name__ == "__main__":
    unittest.main()
