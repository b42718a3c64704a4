import unittest

from oddcrowds.words import is_integer, is_number, is_word
from values import integers, no_integers, no_word_strings, no_words, words


class WordsTest(unittest.TestCase):
    def check(self, function, values, expected):
        for value in values:
            with self.subTest(function.__name__, value=value):
                self.assertIs(function(value), expected)

    def test_words(self):
        self.check(is_word, words(), True)

    def test_each_letter_and_digit(self):
        for sign in "abcdefghijklmnopqrstuvwxyz":
            self.check(is_word, [sign, "x" + sign, sign + "7", "x" * 11 + sign], True)
        for sign in "0123456789":
            self.check(is_word, ["x" + sign, "x" * 11 + sign], True)
            self.check(is_word, [sign, sign + "x", "x" * 12 + sign], False)

    def test_each_other_character(self):
        allowed = "abcdefghijklmnopqrstuvwxyz0123456789"
        others = [sign for sign in [chr(k) for k in range(32, 127)] + ["\t", "\n"] if sign not in allowed]
        self.assertEqual(len(others), 97 - 36)
        for sign in others:
            self.check(is_word, [sign, sign + "x", "x" + sign, "x" + sign + "y", "x" * 11 + sign], False)

    def test_length_1_12_13(self):
        self.check(is_word, ["a", "a" * 12, "a" + "1" * 11], True)
        self.check(is_word, ["", "a" * 13, "a" + "1" * 12], False)

    def test_no_words(self):
        self.check(is_word, no_words() + no_word_strings(), False)

    def test_integers(self):
        self.check(is_integer, integers(), True)
        self.check(is_integer, no_integers() + words(), False)

    def test_numbers(self):
        self.check(is_number, [value for value in integers() if value >= 0], True)
        self.check(is_number, [value for value in integers() if value < 0], False)
        self.check(is_number, no_integers() + words(), False)
        self.check(is_number, [0, 1], True)
        self.check(is_number, [-1, True, False, None, "1", [1], (1,), {1: 1}], False)


if __name__ == "__main__":
    unittest.main()
