import random
import unittest

import plain
from oddcrowds.errors import EvenVoices
from oddcrowds.lastcalls import last_calls, last_script
from oddcrowds.meeting import call_numbers, meeting_place
from oddcrowds.scripts import calls_of, standings_along, walked
from oddcrowds.standings import Standing, shifted_standing
from plain import S
from test_meeting import EVEN, odd_people
from values import anything

FAR = 10 ** 30
WORDS = ["first", "last", "between"]


def left_gaps(people, row):
    """The numbers of the gaps of people that are left in a row that they lead to."""
    return [k for k, (_, steps) in enumerate(plain.kept_steps(people, row)) if steps > 0]


def telling(people, row, name):
    """By what the call of a person is told if it brings all of a row together."""
    word = ["first", "between", "last"][plain.position(row, name)]
    return (word, *left_gaps(people, row))


def plain_last_calls(people):
    """All last calls that come about, in order, found by going through call by call."""
    found = set()
    for row in plain.numbers_from(people):
        for name in plain.callers(row):
            if plain.together(plain.called(row, name)):
                found.add(telling(people, row, name))
    return sorted(found, key=lambda call: (WORDS.index(call[0]), call[1:]))


class LastCallsTest(unittest.TestCase):
    def check(self, people, calls):
        standing = Standing(people)
        with self.subTest(people=people):
            found = last_calls(standing)
            self.assertEqual(found, calls)
            self.assertIs(type(found), list)
            self.assertEqual({type(call) for call in found}, {tuple} if calls else set())
            for call in calls:
                self.check_script(people, call)
            self.assertEqual(standing, Standing(people))

    def check_script(self, people, call):
        standing = Standing(people)
        script = last_script(standing, call)
        with self.subTest(people=people, call=call):
            self.assertIs(type(script), list)
            self.assertTrue(all(type(row) is tuple for row in script))
            self.assertLessEqual(len(script), 200)
            self.assertEqual(walked(standing, script).places(), [meeting_place(standing)])
            least, most = call_numbers(standing)
            self.assertTrue(least <= calls_of(script) <= most)
            # The people ahead of the very last call, which may be one of a row with more.
            name, times = script[-1]
            ahead = standings_along(standing, script[:-1])[-1]
            ahead = walked(ahead, [(name, times - 1)] if times > 1 else []).people()
            self.assertEqual(telling(people, ahead, name), call)
            self.assertEqual({steps for _, steps in plain.kept_steps(people, ahead)} - {0}, {1})
            self.assertEqual(last_script(standing, call), script)

    def test_example(self):
        calls = [("first", 0), ("first", 1), ("last", 2), ("between", 0, 2), ("between", 1, 2)]
        self.check(S, calls)
        self.check(S[::-1], calls)
        self.check([S[2], S[0], S[3], S[1]], calls)

    def test_the_script_of_the_example(self):
        along = standings_along(Standing(S), [("cid", 1), ("dan", 4), ("ann", 2), ("ann", 1)])
        self.assertEqual(telling(S, along[-2].people(), "ann"), ("first", 0))
        self.assertTrue(along[-1].is_together())

    def test_together(self):
        self.check([("a", 7, 1)], [])
        self.check([("a", 7, 1), ("b", 7, 0)], [])

    def test_one_gap(self):
        self.check([("a", 0, 1), ("b", 7, 0)], [("first", 0)])
        self.check([("a", 0, 0), ("b", 7, 1)], [("last", 0)])
        self.check([("a", 0, 1), ("b", 1, 0)], [("first", 0)])

    def test_the_given_standing_is_one_call_from_the_end(self):
        self.check([("a", 0, 0), ("b", 1, 1), ("c", 2, 0)], [("between", 0, 1)])
        self.check([("a", 0, 1), ("b", 1, 1), ("c", 2, 1)], [("first", 0), ("last", 1), ("between", 0, 1)])

    def test_like_all_ways(self):
        lot = random.Random(1)
        seen = []
        for _ in range(150):
            people = odd_people(lot, 6, 8)
            calls = plain_last_calls(people)
            self.check(people, calls)
            self.assertEqual(bool(calls), not plain.together(people))
            seen += [call[0] for call in calls]
            words = [(word, k) for word in WORDS[:2] for k in range(6)]
            words += [("between", k, j) for k in range(6) for j in range(6)]
            for call in words:
                if call not in calls:
                    self.assertIsNone(last_script(Standing(people), call))
        self.assertTrue(all(seen.count(word) > 20 for word in WORDS))

    def test_great_gaps(self):
        people = [("a", -FAR, 1), ("b", 0, 1), ("c", FAR, 1)]
        self.check(people, [("first", 0), ("last", 1), ("between", 0, 1)])
        self.assertEqual(last_calls(shifted_standing(Standing(S), FAR)), last_calls(Standing(S)))

    def test_forty_people(self):
        lot = random.Random(2)
        for k in range(3):
            wide = 10 ** 28 if k else 2
            rows = [("p" + str(k), k * wide + lot.randrange(wide), lot.randrange(2)) for k in range(40)]
            people = plain.with_voices(lot.sample(rows, 40), 1)
            calls = last_calls(Standing(people))
            self.assertTrue(calls)
            self.assertEqual(calls, sorted(calls, key=lambda call: (WORDS.index(call[0]), call[1:])))
            for call in calls[::5] + calls[-1:]:
                self.check_script(people, call)

    def test_nothing_is_shared(self):
        last_calls(Standing(S)).clear()
        last_script(Standing(S), ("first", 0)).clear()
        self.assertEqual(len(last_calls(Standing(S))), 5)
        self.check_script(S, ("first", 0))


class NoLastCallTest(unittest.TestCase):
    def test_what_does_not_come_about(self):
        for call in [("first", 2), ("last", 0), ("last", 1), ("between", 0, 1), ("between", 2, 0), ("between", 2, 1),
                     ("between", 0, 0), ("first", 3), ("first", -1), ("first", -3), ("last", 3), ("last", -1),
                     ("between", 0, 3), ("between", -3, 2), ("between", 0, -1)]:
            self.assertIsNone(last_script(Standing(S), call))

    def test_what_tells_no_last_call(self):
        for call in [["first", 0], ("first",), ("first", 0, 0), ("first", 0, 2), ("first", [0]), ("first", "0"),
                     ("first", False), ("first", True), ("between", False, 2), ("between", 0), ("between", 0, 2, 1),
                     ["between", 0, 2], ("between", (0, 2)), ("last", 2, 2), ("last", None), (("first", 0),), "first",
                     (0, "first"), (), ("First", 0), ("", 0), {"first": 0}, (Standing(S), 0), ("first", Standing(S))]:
            with self.subTest(call=call):
                self.assertIsNone(last_script(Standing(S), call))
        for value in anything():
            for call in [value, (value,), (value, 0), ("first", value), ("last", value), ("between", 0, value),
                         ("between", value, 2)]:
                # True and False are equal to numbers of gaps, but are none.
                if call in last_calls(Standing(S)) and not isinstance(value, bool):
                    continue
                with self.subTest(call=call):
                    self.assertIsNone(last_script(Standing(S), call))

    def test_together(self):
        for call in [("first", 0), ("last", 0), ("between", 0, 1), None, ()]:
            self.assertIsNone(last_script(Standing([("a", 7, 1)]), call))

    def test_even_voices_ahead_of_all_else(self):
        for people in EVEN:
            with self.assertRaises(EvenVoices):
                last_calls(Standing(people))
            for call in [("first", 0), ("last", 0), ("between", 0, 1), None, 5, [], ("first", True)]:
                with self.assertRaises(EvenVoices):
                    last_script(Standing(people), call)


if __name__ == "__main__":
    unittest.main()
