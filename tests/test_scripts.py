import copy
import random
import unittest

import plain
from oddcrowds.calls import times_of
from oddcrowds.errors import BadCall, BadText
from oddcrowds.gaps import gaps
from oddcrowds.scripts import calls_of, first_bad, read_script, script_text, standings_along, walked
from oddcrowds.standings import Standing, are_like
from plain import S
from values import anything, no_words

FAR = 10 ** 30
ROWS = [("cid", 4), ("dan", 1)]
TEXT = "script {\ncid calls 4;\ndan calls 1;\n}\n"

# For each state of the form of a script, what may come then, and the state behind it.
NEXT = {0: {"script": 1}, 1: {"{": 2}, 2: {"word": 3, "}": 9}, 3: {"calls": 4}, 4: {"positive": 5}, 5: {";": 2}, 9: {}}


def places(standing):
    return [place for _, place, _ in standing.people()]


def bad_of(function, standing, script):
    """The number of the BadCall that a function raises, or None."""
    try:
        function(standing, script)
    except BadCall as error:
        return error.number
    return None


class WalkTest(unittest.TestCase):
    def check(self, people, script, found):
        standing = Standing(people)
        with self.subTest(people=people, script=script):
            along = standings_along(standing, script)
            self.assertIs(type(along), list)
            self.assertEqual([places(one) for one in along], found)
            self.assertTrue(all(are_like(standing, one) for one in along))
            self.assertEqual(along[0], standing)
            self.assertEqual(walked(standing, script), along[-1])
            self.assertIsNone(first_bad(standing, script))
            self.assertEqual(standing, Standing(people))

    def test_example(self):
        self.check(S, ROWS, [[0, 3, 4, 9], [4, 4, 4, 5], [5, 5, 5, 5]])
        self.check(S, [("ann", 4), ("dan", 5)], [[0, 3, 4, 9], [0, 0, 0, 5], [5, 5, 5, 5]])
        self.check(S, [("cid", 1), ("cid", 3)], [[0, 3, 4, 9], [1, 4, 4, 8], [4, 4, 4, 5]])
        self.check(S, [("cid", 1), ("bob", 3), ("dan", 1)],
                   [[0, 3, 4, 9], [1, 4, 4, 8], [4, 4, 4, 5], [5, 5, 5, 5]])

    def test_no_rows(self):
        self.check(S, [], [[0, 3, 4, 9]])
        self.check(S, (), [[0, 3, 4, 9]])
        self.check([], [], [[]])

    def test_scripts_as_tuples(self):
        self.check(S, tuple(ROWS), [[0, 3, 4, 9], [4, 4, 4, 5], [5, 5, 5, 5]])

    def test_a_crowd_that_grows_within_a_row(self):
        self.check([("a", 0, 1), ("b", 3, 0), ("c", 7, 1)], [("a", 6), ("b", 1)], [[0, 3, 7], [0, 0, 1], [0, 0, 0]])

    def test_great_times(self):
        people = [("a", -FAR, 0), ("b", 0, 1), ("c", FAR - 1, 0), ("d", FAR, 1)]
        self.check(people, [("b", FAR - 1), ("b", 1)],
                   [[-FAR, 0, FAR - 1, FAR], [-1, 0, 0, 1], [0, 0, 0, 0]])

    def test_many_rows(self):
        self.check([("a", 0, 1), ("b", 400, 0)], [("a", 1)] * 400, [[0, 400 - k] for k in range(401)])

    def test_call_by_call(self):
        lot = random.Random(1)
        for _ in range(300):
            people = plain.random_people(lot, 6, 9)
            found, script = [people], []
            while plain.callers(found[-1]):
                name = lot.choice(plain.callers(found[-1]))
                times = lot.randrange(1, times_of(Standing(found[-1]), name) + 1)
                script.append((name, times))
                found.append(plain.behind_row(found[-1], name, times))
            self.check(people, script, [[place for _, place, _ in one] for one in found])

    def test_each_call_makes_the_sum_of_all_gaps_less_by_one_or_two(self):
        lot = random.Random(2)
        for _ in range(200):
            people = plain.random_people(lot, 7, 9)
            for name in plain.callers(people):
                ahead = sum(width for _, width, _ in gaps(Standing(people)))
                behind = sum(width for _, width, _ in gaps(walked(Standing(people), [(name, 1)])))
                self.assertIn(ahead - behind, (1, 2))

    def test_nothing_is_shared(self):
        standing, script = Standing(S), list(ROWS)
        along = standings_along(standing, script)
        along.clear()
        self.assertEqual(len(standings_along(standing, script)), 3)
        self.assertEqual(script, ROWS)


class BadRowTest(unittest.TestCase):
    def check(self, people, script, number):
        standing = Standing(people)
        before = list(script)
        with self.subTest(people=people, script=script):
            for function in [standings_along, walked]:
                self.assertEqual(bad_of(function, standing, script), number)
                self.assertEqual(bad_of(function, standing, tuple(script)), number)
            self.assertEqual(first_bad(standing, script), number)
            self.assertEqual(first_bad(standing, tuple(script)), number)
            self.assertIs(type(first_bad(standing, script)), int)
            self.assertEqual(script, before)

    def test_rows_that_cannot_be_made_whole(self):
        self.check(S, [("cid", 5)], 0)
        self.check(S, [("bob", 1)], 0)
        self.check(S, [("cid", 4), ("ann", 1)], 1)
        self.check(S, [("cid", 4), ("dan", 2)], 1)
        self.check(S, [("cid", 4), ("dan", 1), ("ann", 1)], 2)
        self.check(S, [("ann", 4), ("dan", 5), ("dan", 1)], 2)
        self.check([], [("ann", 1)], 0)

    def test_a_row_that_can_be_made_in_part(self):
        self.check(S, [("ann", 1), ("cid", 99)], 1)
        self.check(S, [("cid", 10 ** 39)], 0)
        self.check([("a", -FAR, 1), ("b", FAR, 0)], [("a", 2 * FAR + 1)], 0)
        self.check([("a", -FAR, 1), ("b", FAR, 0)], [("a", FAR), ("a", FAR), ("a", 1)], 2)

    def test_no_rows(self):
        rows = [value for value in anything() if not (isinstance(value, tuple) and len(value) == 2)]
        for value in rows + [["cid", 1], ("cid",), ("cid", 1, 1), "ab", {"cid": 1}, {"a": 1, "b": 2}]:
            self.check(S, [value], 0)
            self.check(S, [("cid", 1), value], 1)

    def test_no_times(self):
        for times in [0, -1, -FAR, True, False, None, "1", "", (), (1,), [], [1], {}, {1: 1}, Standing([]), BadCall(1)]:
            self.check(S, [("cid", times)], 0)
            self.check(S, [("cid", 1), ("dan", 1), ("ann", times)], 2)

    def test_no_names(self):
        for name in no_words() + ["eve", "an", "anna", "calls"]:
            self.check(S, [(name, 1)], 0)
            self.check(S, [("cid", 1), (name, 1)], 1)

    def test_what_stands_behind_is_not_looked_at(self):
        for behind in [None, ["ann", 1], ("eve", 1), ("ann", 0), ("ann", 10 ** 39)]:
            self.check(S, [("bob", 1), behind, behind], 0)
            self.check(S, [("cid", 4), ("cid", 1), behind], 1)

    def test_first_bad_of_what_is_no_list_and_no_tuple(self):
        for value in [one for one in anything() if not isinstance(one, (list, tuple))] + [{"cid": 4}, "cid"]:
            with self.subTest(value=value):
                self.assertEqual(first_bad(Standing(S), value), 0)
                self.assertIs(type(first_bad(Standing(S), value)), int)
                self.assertEqual(first_bad(Standing([]), value), 0)

    def test_what_is_passed_stays_as_it_is(self):
        for script in [[["cid", [4]], {"dan": [1]}], [("cid", 4), ([["dan"]], [1])], [("cid", [[4]])]]:
            before = copy.deepcopy(script)
            first_bad(Standing(S), script)
            bad_of(walked, Standing(S), script)
            bad_of(standings_along, Standing(S), script)
            self.assertEqual(script, before)

    def test_a_pair_is_no_script_of_one_row(self):
        self.assertEqual(first_bad(Standing(S), ("cid", 4)), 0)

    def test_call_by_call(self):
        lot = random.Random(3)
        for _ in range(500):
            people = plain.random_people(lot, 5, 6)
            script = [("p" + str(lot.randrange(6)), lot.randrange(0, 4)) for _ in range(4)]
            now, number = people, None
            for k, (name, times) in enumerate(script):
                known = name in [own for own, _, _ in people]
                now = plain.behind_row(now, name, times) if known and times else None
                if now is None:
                    number = k
                    break
            with self.subTest(people=people, script=script):
                self.assertEqual(first_bad(Standing(people), script), number)


class CallsOfTest(unittest.TestCase):
    def test_sums(self):
        self.assertEqual(calls_of([]), 0)
        self.assertEqual(calls_of(()), 0)
        self.assertEqual(calls_of(ROWS), 5)
        self.assertEqual(calls_of(tuple(ROWS)), 5)
        self.assertEqual(calls_of([("ann", 4), ("dan", 5)]), 9)
        self.assertEqual(calls_of([("cid", 10 ** 39), ("cid", 10 ** 39 - 1)]), 2 * 10 ** 39 - 1)

    def test_pairs_of_anything(self):
        for value in anything():
            self.assertEqual(calls_of([(value, 3), ("ann", -5), (value, 0)]), -2)


class WriteTest(unittest.TestCase):
    def test_examples(self):
        self.assertEqual(script_text(ROWS), TEXT)
        self.assertEqual(TEXT.count("\n"), 4)
        self.assertEqual(script_text([]), "script {\n}\n")
        self.assertEqual(script_text(tuple(ROWS)), TEXT)
        self.assertEqual(script_text(()), "script {\n}\n")

    def test_great_times_and_names_that_stand_in_the_form(self):
        rows = [("script", 1), ("calls", 10 ** 39), ("calls", 1)]
        text = "script {\nscript calls 1;\ncalls calls 1" + "0" * 39 + ";\ncalls calls 1;\n}\n"
        self.assertEqual(script_text(rows), text)
        self.assertEqual(read_script(text), rows)


class ReadTest(unittest.TestCase):
    def read(self, text, rows):
        with self.subTest(text=text):
            found = read_script(text)
            self.assertEqual(found, rows)
            self.assertIs(type(found), list)
            self.assertEqual({type(row) for row in found}, {tuple} if rows else set())

    def wrong(self, text, place):
        with self.subTest(text=text):
            with self.assertRaises(BadText) as caught:
                read_script(text)
            self.assertEqual(caught.exception.place, place)
            self.assertEqual(plain.wrong_place(text, NEXT), place)

    def test_written_texts(self):
        many = [("p" + str(k), 10 ** 39 + k) for k in range(300)]
        for rows in [[], ROWS, ROWS * 3, many]:
            self.read(script_text(rows), rows)

    def test_other_texts_of_the_form(self):
        self.read("script{}", [])
        self.read(" \n script \n { \n } \n ", [])
        self.read("script{a calls 5;a calls 1 ; \n b\ncalls\n12\n;}", [("a", 5), ("a", 1), ("b", 12)])
        self.read("script { calls calls 5; script calls 7; }", [("calls", 5), ("script", 7)])

    def test_zero_as_a_number(self):
        self.wrong("script { a calls 0; }", 17)
        self.wrong("script { a calls 0", 17)
        self.wrong("script { a calls 07; }", 17)
        self.wrong("script { a calls 5; b calls 0 0; }", 28)

    def test_numbers_of_other_sorts(self):
        self.wrong("script { a calls -5; }", 17)
        self.wrong("script { a calls five; }", 17)
        self.wrong("script { a calls 5 5; }", 19)
        self.wrong("script { a calls 50x; }", 19)

    def test_texts_that_are_not_complete(self):
        for text in ["", "script", "script {", "script { a", "script { a calls", "script { a calls 5",
                     "script { a calls 5;"]:
            for behind in ["", " ", "\n", " \n  "]:
                self.wrong(text + behind, len(text + behind))

    def test_lexemes_left_out_or_too_many(self):
        self.wrong("{ a calls 5; }", 0)
        self.wrong("scripts {", 0)
        self.wrong("standing { }", 0)
        self.wrong("script a calls 5; }", 7)
        self.wrong("script { calls 5; }", 15)
        self.wrong("script { a 5; }", 11)
        self.wrong("script { a calls ; }", 17)
        self.wrong("script { a calls 5 }", 19)
        self.wrong("script { { }", 9)
        self.wrong("script { ; }", 9)
        self.wrong("script { 5 }", 9)
        self.wrong("script { a a calls 5; }", 11)
        self.wrong("script { a at 5; }", 11)
        self.wrong("script { a calls 5;; }", 19)
        self.wrong("script { } }", 11)
        self.wrong("script { } script { }", 11)

    def test_characters_that_begin_no_lexeme(self):
        self.wrong("\tscript { }", 0)
        self.wrong("script { }\t", 10)
        self.wrong("script { a calls 5, }", 18)
        self.wrong("script { Ann calls 5; }", 9)
        self.wrong("script { abcdefghijklm calls 5; }", 9)
        self.wrong("script { a calls calls, }", 17)
        self.wrong("script { a, calls calls }", 10)

    def test_like_the_plain_way(self):
        lot = random.Random(4)
        parts = ["script", "{", "}", "calls", ";", "-", "0", "5", "12", "a", "bob", " ", "\n", "\t", "X"]
        pieces = ["script", " ", "{", "a", " ", "calls", " ", "5", ";", "b", " ", "calls", " ", "12", ";", "}"]
        for _ in range(4000):
            changed = list(pieces)
            for _ in range(lot.randrange(4)):
                at = lot.randrange(len(changed))
                changed[at:at + lot.randrange(3)] = [lot.choice(parts) for _ in range(lot.randrange(3))]
                changed = changed or ["}"]
            text = "".join(changed)
            place = plain.wrong_place(text, NEXT)
            if place is None:
                self.assertEqual(read_script(script_text(read_script(text))), read_script(text))
            else:
                self.wrong(text, place)

    def test_long_texts(self):
        text = "script {\n" + "abc calls 12345;\n" * 1100
        self.wrong(text, len(text))
        self.read(text + "}", [("abc", 12345)] * 1100)

    def test_nothing_is_shared(self):
        read_script(TEXT).clear()
        self.assertEqual(read_script(TEXT), ROWS)


if __name__ == "__main__":
    unittest.main()
