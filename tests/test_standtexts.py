import random
import unittest

import plain
from oddcrowds.errors import BadStanding, BadText
from oddcrowds.standings import Standing
from oddcrowds.standtexts import read_standing, standing_text

PEOPLE = [("ann", 0, 1), ("bob", 3, 0), ("cid", 4, 1), ("dan", 4, 1)]
TEXT = "standing {\nann at 0 voice;\nbob at 3;\ncid at 4 voice;\ndan at 4 voice;\n}\n"


def wrong_place(text):
    """The place that read_standing raises, or None."""
    try:
        read_standing(text)
    except BadText as error:
        return error.place
    except BadStanding:
        return None
    return None


# The plain way to find the first wrong place: the states of the form, with what may come in each.
NEXT = {
    0: {"standing": 1}, 1: {"{": 2}, 2: {"word": 3, "}": 9}, 3: {"at": 4}, 4: {"-": 5, "number": 6},
    5: {"positive": 6}, 6: {"voice": 7, ";": 2}, 7: {";": 2}, 9: {},
}


def plain_wrong_place(text):
    return plain.wrong_place(text, NEXT)


class WriteTest(unittest.TestCase):
    def test_examples(self):
        self.assertEqual(standing_text(Standing(PEOPLE)), TEXT)
        self.assertEqual(TEXT.count("\n"), 6)
        self.assertEqual(standing_text(Standing([])), "standing {\n}\n")

    def test_places(self):
        people = [("a", -1, 0), ("b", -(10 ** 30), 1), ("c", 10 ** 30, 0), ("d", 0, 0)]
        self.assertEqual(standing_text(Standing(people)),
                         "standing {\na at -1;\nb at -1" + "0" * 30 + " voice;\nc at 1" + "0" * 30 + ";\nd at 0;\n}\n")

    def test_names_that_stand_in_the_form(self):
        people = [("standing", 1, 0), ("at", -2, 1), ("voice", 3, 1)]
        text = "standing {\nstanding at 1;\nat at -2 voice;\nvoice at 3 voice;\n}\n"
        self.assertEqual(standing_text(Standing(people)), text)
        self.assertEqual(read_standing(text), Standing(people))


class ReadTest(unittest.TestCase):
    def read(self, text, people):
        with self.subTest(text=text):
            self.assertEqual(read_standing(text), Standing(people))
            self.assertIs(plain_wrong_place(text), None)

    def wrong(self, text, place):
        with self.subTest(text=text):
            with self.assertRaises(BadText) as caught:
                read_standing(text)
            self.assertEqual(caught.exception.place, place)
            self.assertEqual(plain_wrong_place(text), place)

    def test_written_texts(self):
        forty = [("p" + str(k), (k - 20) * 10 ** 29, k % 2) for k in range(40)]
        for people in [[], PEOPLE, PEOPLE[::-1], forty]:
            self.read(standing_text(Standing(people)), people)

    def test_other_texts_of_the_form(self):
        self.read("standing{}", [])
        self.read("\n standing \n\n { \n } \n ", [])
        self.read("standing{a at 0;}", [("a", 0, 0)])
        self.read("standing{a at 0voice;b at-5;c at - \n 7 voice ; }", [("a", 0, 1), ("b", -5, 0), ("c", -7, 1)])
        self.read("standing { voice at 0 voice; at at 12; standing at 1; }",
                  [("voice", 0, 1), ("at", 12, 0), ("standing", 1, 0)])
        self.read("standing {a at " + "9" * 40 + ";}", [("a", 10 ** 40 - 1, 0)])

    def test_examples_of_wrong_places(self):
        self.wrong("standing { 1", 11)
        self.wrong("standing { a at -0", 17)
        self.wrong("standings {", 0)

    def test_texts_that_are_not_complete(self):
        for text in ["", "standing", "standing {", "standing { a", "standing { a at", "standing { a at -",
                     "standing { a at 5", "standing { a at 5 voice", "standing { a at 5 voice;", "standing { a at 5;"]:
            for behind in ["", " ", "\n", " \n  "]:
                self.wrong(text + behind, len(text + behind))

    def test_each_beginning_of_a_text(self):
        for k in range(len(TEXT)):
            self.assertEqual(wrong_place(TEXT[:k]), plain_wrong_place(TEXT[:k]))

    def test_lexemes_left_out(self):
        self.wrong("{ a at 5; }", 0)
        self.wrong("standing a at 5; }", 9)
        self.wrong("standing { at 5; }", 14)
        self.wrong("standing { a 5; }", 13)
        self.wrong("standing { a at ; }", 16)
        self.wrong("standing { a at - ; }", 18)
        self.wrong("standing { a at 5 }", 18)
        self.wrong("standing { a at 5 voice }", 24)

    def test_lexemes_put_in_or_told_twice(self):
        self.wrong("standing standing { }", 9)
        self.wrong("standing { { }", 11)
        self.wrong("standing { ; }", 11)
        self.wrong("standing { - }", 11)
        self.wrong("standing { a a at 5; }", 13)
        self.wrong("standing { a at at 5; }", 16)
        self.wrong("standing { a at --5; }", 17)
        self.wrong("standing { a at 5 5; }", 18)
        self.wrong("standing { a at 5 - ; }", 18)
        self.wrong("standing { a at 5 voice voice; }", 24)
        self.wrong("standing { a at 5;; }", 18)
        self.wrong("standing { } }", 13)
        self.wrong("standing { } standing { }", 13)
        self.wrong("standing { a at 5 loud; }", 18)
        self.wrong("at { }", 0)

    def test_numbers_with_unnecessary_zeros(self):
        self.wrong("standing { a at 007; }", 17)
        self.wrong("standing { a at 00; }", 17)
        self.wrong("standing { a at -07; }", 17)
        self.wrong("standing { a at - 0; }", 18)

    def test_characters_that_begin_no_lexeme(self):
        self.wrong("\tstanding { }", 0)
        self.wrong("standing { }\t", 12)
        self.wrong("standing { } ,", 13)
        self.wrong("standing { a at 5. }", 17)
        self.wrong("standing { Ann at 5; }", 11)
        self.wrong("standing { annabellissima at 5; }", 11)
        self.wrong("standing { annabellissim at 5; }", 11)
        self.wrong("standing { a at abcdefghijklm; }", 16)

    def test_characters_ahead_of_the_first_wrong_lexeme_and_behind_it(self):
        self.wrong("standing { a, at at 5; }", 12)
        self.wrong("standing { a at at 5, }", 16)
        self.wrong("standing { a at at, }", 16)
        self.wrong("standings , {", 0)
        self.wrong(", standings {", 0)
        self.wrong("standing { } } \t", 13)
        self.wrong("standing { } \t }", 13)
        self.wrong("standing {\t", 10)

    def test_a_name_that_is_told_again(self):
        for text, k in [("standing { a at 0; a at 0; }", 1), ("standing { a at 0; b at 1; c at 2; b at 7; a at 3; }", 3),
                        ("standing { at at 0; voice at 0; voice at 1 voice; }", 2)]:
            with self.subTest(text=text):
                with self.assertRaises(BadStanding) as caught:
                    read_standing(text)
                self.assertEqual(caught.exception.path, (k, 0))

    def test_a_wrong_place_counts_ahead_of_a_name_that_is_told_again(self):
        self.wrong("standing { a at 0; a at 0; ", 27)
        self.wrong("standing { a at 0; a at 0; } }", 29)
        self.wrong("standing { a at 0; a at 0; }\t", 28)

    def test_long_texts(self):
        people = [("a" * 10 + str(k), -(10 ** 30), 1) for k in range(10, 50)]
        text = standing_text(Standing(people))
        blanks = " " * (19990 - len(text))
        self.read("standing" + blanks + text[8:], people)
        self.read(text + blanks, people)
        self.wrong(blanks + text + "a", 19990)
        many = "standing {\n" + "abc at -12345 voice;\n" * 950
        self.wrong(many, len(many))

    def test_like_the_plain_way(self):
        lot = random.Random(5)
        parts = ["standing", "{", "}", "at", "voice", ";", "-", "0", "5", "12", "a", "bob", " ", "\n", "\t", "X"]
        pieces = ["standing", " ", "{", "a", " ", "at", " ", "-", "5", " ", "voice", ";", "b", " ", "at", " ", "0", ";", "}"]
        for _ in range(4000):
            changed = list(pieces)
            for _ in range(lot.randrange(4)):
                at = lot.randrange(len(changed))
                changed[at:at + lot.randrange(3)] = [lot.choice(parts) for _ in range(lot.randrange(3))]
                changed = changed or ["}"]
            text = "".join(changed)
            with self.subTest(text=text):
                self.assertEqual(wrong_place(text), plain_wrong_place(text))


if __name__ == "__main__":
    unittest.main()
