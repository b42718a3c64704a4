import unittest

from oddcrowds.errors import BadText
from oddcrowds.lexemes import lexemes


class LexemesTest(unittest.TestCase):
    def check(self, text, found):
        with self.subTest(text=text):
            self.assertEqual(lexemes(text), found)

    def wrong(self, text, place):
        with self.subTest(text=text):
            with self.assertRaises(BadText) as caught:
                lexemes(text)
            self.assertEqual(caught.exception.place, place)

    def test_examples(self):
        self.check("12ab", [("number", "12", 0), ("word", "ab", 2)])
        self.check("-12", [("sign", "-", 0), ("number", "12", 1)])
        self.check("007", [("number", "0", 0), ("number", "0", 1), ("number", "7", 2)])
        self.wrong("abcdefghijklm", 0)
        self.wrong("\t", 0)

    def test_nothing(self):
        for text in ["", " ", "\n", "  \n \n\n  "]:
            self.check(text, [])

    def test_words(self):
        self.check("a", [("word", "a", 0)])
        self.check("abcdefghijkl", [("word", "abcdefghijkl", 0)])
        self.check("a12345678901", [("word", "a12345678901", 0)])
        self.check("a007", [("word", "a007", 0)])
        self.check("x9y8", [("word", "x9y8", 0)])
        self.check("a b", [("word", "a", 0), ("word", "b", 2)])
        self.check("abcdefghijkl mn", [("word", "abcdefghijkl", 0), ("word", "mn", 13)])

    def test_words_that_are_too_long(self):
        self.wrong("a123456789012", 0)
        self.wrong("ab cdefghijklmno p", 3)
        self.wrong("5abcdefghijklm", 1)
        self.wrong("}abcdefghijklm{", 1)
        self.wrong("a" * 20000, 0)

    def test_numbers(self):
        self.check("0", [("number", "0", 0)])
        self.check("10", [("number", "10", 0)])
        self.check("100200", [("number", "100200", 0)])
        self.check("00", [("number", "0", 0), ("number", "0", 1)])
        self.check("010", [("number", "0", 0), ("number", "10", 1)])
        self.check("0ab", [("number", "0", 0), ("word", "ab", 1)])
        self.check("9 8", [("number", "9", 0), ("number", "8", 2)])
        forty = "1234567890" * 4
        self.check(forty, [("number", forty, 0)])
        self.check(forty + "abc", [("number", forty, 0), ("word", "abc", 40)])
        self.check("abcdefghijkl 0" + forty, [("word", "abcdefghijkl", 0), ("number", "0", 13), ("number", forty, 14)])

    def test_signs(self):
        for sign in "{};-":
            self.check(sign, [("sign", sign, 0)])
            self.check(sign + sign, [("sign", sign, 0), ("sign", sign, 1)])
        self.check("a-1", [("word", "a", 0), ("sign", "-", 1), ("number", "1", 2)])

    def test_blanks_and_line_feeds(self):
        self.check(" \n a\n\n5 ;\n}  \n", [("word", "a", 3), ("number", "5", 6), ("sign", ";", 8), ("sign", "}", 10)])
        self.check("a\nb", [("word", "a", 0), ("word", "b", 2)])

    def test_characters_that_begin_no_lexeme(self):
        allowed = "abcdefghijklmnopqrstuvwxyz0123456789{};- \n"
        for sign in [chr(k) for k in range(32, 127)] + ["\t"]:
            if sign in allowed:
                self.assertLessEqual(len(lexemes(sign)), 1)
                continue
            self.wrong(sign, 0)
            self.wrong(" a " + sign + "b", 3)
            self.wrong("ab" + sign, 2)
            self.wrong("12" + sign, 2)
            self.wrong("ab\n" + sign + sign, 3)

    def test_the_first_wrong_character(self):
        self.wrong("a, b. C", 1)
        self.wrong("aB", 1)
        self.wrong("A abcdefghijklm", 0)
        self.wrong("abcdefghijklm A", 0)

    def test_the_returned_list_is_new(self):
        first = lexemes("a b")
        first.clear()
        self.check("a b", [("word", "a", 0), ("word", "b", 2)])

    def test_a_long_text(self):
        text = "ab 12;" * 3333
        found = lexemes(text)
        self.assertEqual(len(found), 9999)
        self.assertEqual(found[-1], ("sign", ";", 6 * 3333 - 1))


if __name__ == "__main__":
    unittest.main()
