import random
import unittest

import plain
from oddcrowds.console import Console
from oddcrowds.house import House
from oddcrowds.standings import Standing
from plain import S
from test_histories import GOAL
from test_house import account
from test_parting import T, at
from values import words

FAR = 10 ** 30
ALONE = ["undo", "redo", "show", "made", "meets", "parts", "least", "most", "early", "late", "callers", "on", "clear"]
WITH_NAME = ["go", "voice", "keep", "has", "to"]

# For each state of the form of a line, what may come then, and the state behind it. State 9 is the end.
NEXT = {0: {word: 9 for word in ALONE}, 1: {"word": 9}, 2: {"word": 3}, 3: {"number": 9, "end": 9}, 4: {"word": 5}, 5: {"at": 6},
        6: {"-": 7, "number": 8}, 7: {"positive": 8}, 8: {"voice": 9, "end": 9}, 9: {}, 10: {"word": 11},
        11: {"-": 12, "number": 9}, 12: {"positive": 9}, 13: {"-": 14, "number": 13, "end": 9}, 14: {"positive": 13}}
NEXT[0].update({word: 1 for word in WITH_NAME})
NEXT[0].update({"call": 2, "come": 4, "step": 10, "goal": 13})


def wrong_place(line):
    """The first wrong place of a line, or None; at some states a line may end as well."""
    found = plain.wrong_place(line, NEXT)
    if found == len(line):
        # The plain way knows one state at which a text is complete; these are the others.
        form = {state: {kind: behind for kind, behind in ways.items() if kind != "end"} for state, ways in NEXT.items()}
        for state, ways in NEXT.items():
            if "end" in ways:
                form[state]["}"] = 9
        return None if plain.wrong_place(line + " }", form) is None else found
    return found


class ConsoleTest(unittest.TestCase):
    def console(self, people=S):
        return Console(House(Standing(people)))

    def says(self, console, *lines):
        """Check the answer to each line, told as pairs."""
        for line, answer in lines:
            with self.subTest(line=line):
                self.assertEqual(console.say(line), answer)

    def refuses(self, console, line, answer):
        """Check an answer that begins with no, and that nothing changes."""
        before = account(console.house())
        with self.subTest(line=line):
            self.assertEqual(console.say(line), answer)
            self.assertEqual(account(console.house()), before)

    def test_its_house(self):
        house = House(Standing(S))
        console = Console(house)
        self.assertIs(console.house(), house)

    def test_example(self):
        console = self.console()
        self.says(console, ("meets", "5"), ("goal 2 4 4 7", "1"), ("least", "2"), ("most", "3"), ("call ann", "2"),
                  ("made", "1"), ("least", "2"), ("most", "2"), ("early", "1"), ("late", "0"), ("on", "cid dan"),
                  ("call ann", "no BadAct goal"), ("call cid", "3"), ("call dan 1", "4"), ("on", ""), ("least", "0"))
        self.assertEqual(console.house().standing(), at(S, GOAL))

    def test_acts(self):
        console = self.console()
        house = console.house()
        self.says(console, ("call cid 3", "1"), ("come eve at 2", "2"), ("come fay at -12 voice", "3"), ("go bob", "4"),
                  ("voice eve", "5"), ("step eve -3", "6"), ("step fay 4", "7"), ("clear", "8"), ("call eve", "9"))
        self.assertEqual(house.done(), [("call", "cid", 3), ("come", ("eve", 2, 0)), ("come", ("fay", -12, 1)),
                                        ("go", "bob"), ("voice", "eve"), ("step", "eve", -3), ("step", "fay", 4),
                                        ("goal", None), ("call", "eve", 1)])

    def test_goals(self):
        console = self.console()
        self.says(console, ("goal 2 4 4 7", "1"), ("goal 0 3 4 9", "2"), ("clear", "3"), ("clear", "4"))
        self.assertEqual(console.house().done(), [("goal", GOAL), ("goal", (0, 3, 4, 9)), ("goal", None), ("goal", None)])
        self.refuses(console, "goal", "no BadAct places")
        self.refuses(console, "goal 1", "no BadAct places")
        self.refuses(console, "goal 0 3 4 8", "no BadAct lead")
        nobody = self.console([])
        self.says(nobody, ("goal", "1"), ("least", "0"), ("show", ""), ("on", ""), ("callers", ""))
        self.assertEqual(nobody.house().done(), [("goal", ())])
        below = self.console([("a", -5, 1), ("b", -2, 1)])
        self.says(below, ("goal -5 -3", "1"), ("call a", "2"))

    def test_undo_and_redo(self):
        console = self.console()
        self.refuses(console, "undo", "no NothingDone")
        self.refuses(console, "redo", "no NothingDone")
        self.says(console, ("call ann", "1"), ("call ann", "2"), ("undo", "1"), ("undo", "0"), ("redo", "1"), ("redo", "2"))
        self.refuses(console, "redo", "no NothingDone")

    def test_keep_and_to(self):
        console = self.console()
        self.says(console, ("call cid 2", "1"), ("keep there", "1"), ("undo", "0"), ("keep start", "2"),
                  ("keep there2", "3"), ("keep start", "3"), ("to there", "2 to 3"), ("to start", "0 to 0"),
                  ("call dan 2", "1"), ("to there", "never"), ("undo", "0"), ("voice bob", "1"))
        self.refuses(console, "to there", "no UnlikePeople")
        self.refuses(console, "to nowhere", "no UnknownName")
        self.assertEqual(console.house().marks(), ["there", "start", "there2"])

    def test_show_and_has(self):
        console = self.console([("ann", 0, 1), ("bob", -3, 0), ("at", -10 ** 30, 1)])
        self.says(console, ("show", "ann 0 voice; bob -3; at -1" + "0" * 30 + " voice"), ("has ann", "0"), ("has bob", "-3"),
                  ("has at", "-1" + "0" * 30))
        self.refuses(console, "has eve", "no UnknownName")
        self.refuses(console, "has show", "no UnknownName")
        self.says(self.console([("voice", 7, 1)]), ("show", "voice 7 voice"), ("has voice", "7"))

    def test_numbers(self):
        console = self.console()
        self.says(console, ("made", "0"), ("meets", "5"), ("parts", "none"), ("least", "none"), ("most", "none"),
                  ("early", "none"), ("late", "none"), ("on", "none"), ("callers", "ann cid dan"))
        even = self.console(T)
        self.says(even, ("meets", "none"), ("parts", "2"), ("callers", "ann bob cid dan"), ("goal 1 1 1 1", "1"),
                  ("least", "2"), ("most", "2"), ("early", "0"), ("late", "0"), ("call ann", "2"), ("parts", "1"), ("made", "1"))
        self.says(self.console([("a", -7, 1)]), ("meets", "-7"), ("callers", ""), ("parts", "none"))
        self.says(self.console([]), ("meets", "none"), ("parts", "0"), ("callers", ""), ("made", "0"))

    def test_late_waste(self):
        self.says(self.console(), ("goal 2 4 4 7", "1"), ("call cid 2", "2"), ("late", "1"), ("early", "0"), ("made", "2"))

    def test_refused_acts(self):
        console = self.console()
        for line, word in [("call eve", "name"), ("call bob", "calls"), ("call ann 0", "times"), ("call ann 99", "calls"),
                           ("call eve 0", "name"), ("come ann at 3", "person"), ("come eve at 1" + "0" * 31, "far"),
                           ("go eve", "name"), ("voice eve", "name"), ("step eve 0", "name"), ("step ann 0", "by"),
                           ("step ann -1" + "0" * 35, "far"), ("goal 5 5 5 6", "lead")]:
            self.refuses(console, line, "no BadAct " + word)
        console.say("goal 2 4 4 7")
        for line in ["come eve at 3", "go ann", "voice ann", "step ann 1", "call ann 2"]:
            self.refuses(console, line, "no BadAct goal")

    def test_full(self):
        console = self.console([("a", 0, 1), ("b", 10 ** 30, 1)])
        for k in range(120):
            self.assertEqual(console.say("call a"), str(k + 1))
        self.refuses(console, "call a", "no BadAct full")
        self.refuses(console, "call c", "no BadAct name")
        self.says(console, ("keep a", "1"), ("undo", "119"), ("redo", "120"), ("to a", "0 to 0"))

    def test_two_consoles_of_one_house(self):
        house = House(Standing(S))
        first, second = Console(house), Console(house)
        self.says(first, ("call ann", "1"))
        self.says(second, ("made", "1"), ("undo", "0"))
        self.says(first, ("made", "0"), ("redo", "1"))
        house.do(("call", "ann", 1))
        self.says(second, ("made", "2"))
        self.assertIs(first.house(), second.house())

    def test_names_that_stand_in_forms(self):
        console = self.console([])
        for k, name in enumerate(["at", "voice", "call", "come", "undo", "show", "goal", "none"]):
            self.says(console, (f"come {name} at {k} voice", str(k + 1)))
        self.says(console, ("has at", "0"), ("has voice", "1"), ("call voice 0", "no BadAct times"), ("voice voice", "9"),
                  ("has call", "2"), ("keep keep", "1"), ("to keep", "0 to 0"), ("go go", "no BadAct name"))


class ReadingTest(unittest.TestCase):
    def place(self, line, told):
        """Check the first wrong place of a line, and that nothing changes."""
        console = Console(House(Standing(S)))
        console.say("call ann")
        before = account(console.house())
        with self.subTest(line=line):
            self.assertEqual(wrong_place(line), told)
            answer = console.say(line)
            if told is None:
                self.assertFalse(answer.startswith("no BadText"))
            else:
                self.assertEqual(answer, f"no BadText {told}")
                self.assertEqual(account(console.house()), before)

    def test_lines_that_are_not_complete(self):
        for line in ["", " ", "   \n ", "call", "call ", "come", "come eve", "come eve at", "come eve at -", "go", "voice", "step",
                     "step ann", "step ann -", "goal -", "goal 1 -", "keep", "has", "to", "to \n"]:
            self.place(line, len(line))

    def test_wrong_lexemes(self):
        for line, place in [("jump ann", 0), (" ann", 1), ("5", 0), (";", 0), ("callann", 0), ("call 5", 5), ("call ann x", 9),
                            ("call ann -1", 9), ("call ann 1 2", 11), ("call ann 00", 10), ("call ann;", 8),
                            ("come eve at 3 voice 1", 20), ("come eve at 3 at", 14), ("come eve 3", 9), ("come eve at x", 12),
                            ("come eve at -0", 13), ("come eve at 3;", 13), ("come eve at --3", 13), ("go ann bob", 7),
                            ("go 5", 3), ("voice", 5), ("voice ann voice", 10), ("step ann", 8), ("step ann - 0", 11),
                            ("step ann x", 9), ("step ann 1 1", 11), ("step 1", 5), ("goal 1 x", 7), ("goal 1 - 0", 9),
                            ("goal x", 5), ("clear all", 6), ("undo 1", 5), ("redo x", 5), ("show ann", 5), ("made;", 4),
                            ("keep 1", 5), ("keep a b", 7), ("has a b", 6), ("to - a", 3), ("on on", 3), ("Call ann", 0),
                            ("meets{", 5), ("call call call", 10)]:
            self.place(line, place)

    def test_characters_that_begin_no_lexeme(self):
        for line, place in [("\t", 0), ("call\tann", 4), ("call ann\t", 8), ("call ann @", 9), ("show .", 5), ("show.", 4),
                            ("goal 1 2 3 4 !", 13), ("goal -@", 6), ("abcdefghijklm", 0), ("call abcdefghijklm", 5),
                            ("has abcdefghijkl", None), ("step ann 1A", 10), ("jump @", 0), ("call 5 @", 5), ("go ann, bob", 6)]:
            self.place(line, place)

    def test_blanks_and_line_feeds(self):
        for line, answer in [("  made\n", "0"), ("\n\ncall \n ann  2\n", "1"), ("step ann -\n 3", "1"), ("step ann - 3", "1"),
                             ("goal 0 3 4  9 ", "1"), ("come eve\nat\n-5\nvoice\n", "1"), ("step ann-3", "1"),
                             ("call ann2", "no BadAct name"), ("goal 0 3 4 09", "no BadAct places"), ("call ann 2\n", "1")]:
            with self.subTest(line=line):
                self.assertEqual(Console(House(Standing(S))).say(line), answer)

    def test_numbers_beside_each_other(self):
        console = Console(House(Standing([("a", 0, 0), ("b", 0, 0), ("c", 7, 1)])))
        # 007 are three numbers.
        self.assertEqual(console.say("goal 007"), "1")
        self.assertEqual(console.say("goal0 07"), "no BadText 0")
        self.assertEqual(console.say("goal 0 0-7"), "no BadAct lead")

    def test_lines_with_a_lexeme_left_out_put_in_or_cut(self):
        lot = random.Random(1)
        lines = [["call", "ann"], ["call", "ann", "2"], ["come", "eve", "at", "5"], ["come", "eve", "at", "-", "5", "voice"],
                 ["go", "ann"], ["voice", "ann"], ["step", "ann", "-", "4"], ["step", "ann", "4"], ["goal"],
                 ["goal", "0", "-", "3", "4", "9"], ["clear"], ["undo"], ["keep", "a"], ["has", "ann"], ["to", "a"], ["show"]]
        parts = ["call", "ann", "at", "voice", "-", "0", "7", ";", "{", "}", "goal", "@", "\t", "x1", "aaaaaaaaaaaaa", "show"]
        for _ in range(3000):
            lexemes = list(lot.choice(lines))
            for _ in range(lot.randrange(3)):
                k = lot.randrange(len(lexemes) + 1)
                lexemes[k:k + lot.randrange(2)] = [lot.choice(parts)] if lot.randrange(3) else []
            line = lot.choice(["", " ", "\n"]) + lot.choice([" ", "  ", "\n"]).join(lexemes)
            if lot.randrange(3) == 0:
                line = line[:lot.randrange(len(line) + 1)]
            self.place(line, wrong_place(line))

    def test_long_lines(self):
        console = Console(House(Standing(S)))
        line = "goal" + " 12" * 6650
        self.assertEqual(console.say(line), "no BadAct places")
        self.assertEqual(console.say(line + " x"), "no BadText 19955")
        self.assertEqual(console.say(line + " -"), "no BadText 19956")
        self.assertEqual(console.say(" " * 19996 + "made"), "0")
        self.assertEqual(console.say("made" + " " * 19995 + "x"), "no BadText 19999")
        self.assertEqual(console.say(" " * 20000), "no BadText 20000")
        self.assertEqual(console.say("call ann " + "9" * 40), "no BadAct calls")
        self.assertEqual(console.say("goal" + " 1" * 9998), "no BadAct places")
        self.assertEqual(console.say("goal 0 3 4" + " " * 19985 + "9"), "1")

    def test_words_of_all_kinds(self):
        for name in words():
            console = Console(House(Standing([])))
            self.assertEqual(console.say(f"come {name} at 3"), "1")
            self.assertEqual(console.say(f"has {name}"), "3")
            self.assertEqual(console.say(f"keep {name}"), "1")


if __name__ == "__main__":
    unittest.main()
