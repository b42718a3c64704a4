import random
import unittest

import plain
from oddcrowds.errors import BadNumber, EvenVoices
from oddcrowds.meeting import call_numbers, meeting_place, share_of
from oddcrowds.meetscripts import judge_meeting, meet_script
from oddcrowds.scripts import calls_of, walked
from oddcrowds.standings import Standing, shifted_standing
from plain import S
from test_meeting import EVEN, odd_people
from values import anything, no_integers

FAR = 10 ** 30


def crowded(lot, people, width):
    """So many people with gaps of up to a width, an odd number of them with a voice."""
    rows = []
    place = -20 * 10 ** 28
    for k in range(people):
        rows.append(("p" + str(k), place, lot.randrange(2)))
        place += lot.randrange(width + 1)
    return plain.with_voices(lot.sample(rows, people), 1)


def row_by_row(people, script):
    """The people behind a script, call by call, or None if one of them cannot be made."""
    for name, times in script:
        people = plain.behind_row(people, name, times)
        if people is None:
            return None
    return people


class MeetScriptTest(unittest.TestCase):
    def check(self, people, calls):
        standing = Standing(people)
        with self.subTest(people=people, calls=calls):
            script = meet_script(standing, calls)
            self.assertIs(type(script), list)
            self.assertTrue(all(type(row) is tuple and row[1] >= 1 for row in script))
            self.assertEqual(calls_of(script), calls)
            self.assertLessEqual(len(script), 200)
            self.assertEqual(walked(standing, script).places(), [meeting_place(standing)])
            self.assertIsNone(judge_meeting(standing, script))
            self.assertEqual(meet_script(standing, calls), script)
            self.assertEqual(standing, Standing(people))
            return script

    def check_call_by_call(self, people):
        least, most = call_numbers(Standing(people))
        for calls in range(least, most + 1):
            script = self.check(people, calls)
            behind = row_by_row(people, script)
            self.assertTrue(plain.together(behind))
            self.assertEqual(self.share(people, script), share_of(Standing(people), calls))

    def share(self, people, script):
        found = [0, 0, 0]
        for name, times in script:
            for _ in range(times):
                found[plain.position(people, name)] += 1
                people = plain.called(people, name)
        return tuple(found)

    def test_example(self):
        for calls in range(5, 10):
            self.check(S, calls)
        self.check_call_by_call(S)
        self.check_call_by_call(S[::-1])
        self.check_call_by_call([S[2], S[0], S[3], S[1]])

    def test_one_place(self):
        self.assertEqual(meet_script(Standing([("a", 7, 1)]), 0), [])
        self.assertEqual(meet_script(Standing([("a", 7, 1), ("b", 7, 0)]), 0), [])

    def test_each_number_that_there_is(self):
        lot = random.Random(1)
        for _ in range(300):
            self.check_call_by_call(odd_people(lot, 7, 12))

    def test_great_gaps(self):
        people = [("a", -FAR, 1), ("b", 0, 1), ("c", FAR, 1)]
        for calls in [FAR, FAR + 1, 3 * FAR // 2, 2 * FAR - 1, 2 * FAR]:
            self.check(people, calls)
        self.check([("a", -FAR, 0), ("b", FAR, 1)], 2 * FAR)

    def check_three_numbers(self, people):
        least, most = call_numbers(Standing(people))
        for calls in [least, (least + most) // 2, most]:
            self.check(people, calls)

    def test_forty_people(self):
        lot = random.Random(2)
        for _ in range(30):
            self.check_three_numbers(crowded(lot, 40, 10 ** 28))
            self.check_three_numbers(crowded(lot, 40, 2))

    def test_forty_people_one_by_one(self):
        for voices in [[1] * 39 + [0], [0] + [1] * 39, [k % 2 for k in range(39)] + [0],
                       [1, 1, 0, 0] * 9 + [1, 0, 0, 0], [0] * 20 + [1] + [0] * 19, [1, 0, 0] * 13 + [0]]:
            people = [("p" + str(k), k * 10 ** 28 + k * k, voice) for k, voice in enumerate(voices)]
            self.check_three_numbers(people)
            self.check_three_numbers(people[::-1])

    def test_numbers_that_there_are_not(self):
        for people, least, most in [(S, 5, 9), ([("a", 7, 1)], 0, 0), ([("a", 0, 1), ("b", 7, 0)], 7, 7)]:
            for value in [least - 1, most + 1, most + FAR, -FAR] + no_integers() + [[least], (least,), str(least)]:
                with self.subTest(people=people, value=value):
                    with self.assertRaises(BadNumber) as caught:
                        meet_script(Standing(people), value)
                    self.assertEqual((caught.exception.least, caught.exception.most), (least, most))

    def test_even_voices_ahead_of_all_else(self):
        for people in EVEN:
            for calls in [0, 5, -1] + no_integers():
                with self.subTest(people=people, calls=calls):
                    with self.assertRaises(EvenVoices):
                        meet_script(Standing(people), calls)

    def test_nothing_is_shared(self):
        meet_script(Standing(S), 7).clear()
        self.check(S, 7)


class JudgeTest(unittest.TestCase):
    def check(self, people, value, told):
        with self.subTest(people=people, value=value):
            found = judge_meeting(Standing(people), value)
            self.assertEqual(found, told)
            if told is not None:
                self.assertIs(type(found), tuple)

    def test_right_scripts(self):
        for script in [[("cid", 4), ("dan", 1)], [("ann", 4), ("dan", 5)], [("cid", 1), ("bob", 3), ("dan", 1)],
                       [("ann", 1), ("ann", 3), ("dan", 2), ("dan", 3)]]:
            self.check(S, script, None)
            self.check(S, tuple(script), None)
        self.check([("a", 7, 1)], [], None)
        self.check([("a", 7, 1), ("b", 7, 0)], (), None)
        self.check([("a", 0, 1), ("b", 300, 0)], [("a", 1)] * 300, None)

    def test_no_list_and_no_tuple(self):
        for value in anything() + [{"cid": 4, "dan": 1}]:
            if not isinstance(value, (list, tuple)):
                self.check(S, value, ("form",))
                self.check([("a", 7, 1)], value, ("form",))
                self.check([], value, ("form",))

    def test_bad_rows(self):
        self.check(S, [("cid", 5)], ("row", 0))
        self.check(S, [("cid", 4), ("dan", 2)], ("row", 1))
        self.check(S, [("cid", 4), ("ann", 1), 5], ("row", 1))
        self.check(S, [("cid", 4), ("dan", 1), ("dan", 1)], ("row", 2))
        self.check(S, [("cid", 4), ["dan", 1]], ("row", 1))
        self.check(S, [("cid", 4), ("dan", True)], ("row", 1))
        self.check(S, [("cid", 4), ("eve", 1)], ("row", 1))
        self.check(S, ("cid", 4), ("row", 0))
        for value in anything():
            self.check(S, [("cid", 1), value], ("row", 1))

    def test_people_who_are_apart(self):
        self.check(S, [], ("apart",))
        self.check(S, (), ("apart",))
        self.check(S, [("cid", 4)], ("apart",))
        self.check(S, [("ann", 4), ("dan", 4)], ("apart",))

    def test_even_voices(self):
        people = [("a", 0, 1), ("b", 3, 1)]
        self.check(people, [("a", 3)], None)
        self.check(people, [("a", 1), ("b", 2)], None)
        self.check(people, [("a", 2)], ("apart",))
        self.check(people, [("a", 4)], ("row", 0))
        self.check(people, "a", ("form",))
        self.check([], [], None)
        self.check([], [("a", 1)], ("row", 0))
        self.check([("a", 5, 0)], [], None)
        self.check([("a", 0, 0), ("b", 9, 0)], [], ("apart",))

    def test_great_gaps(self):
        people = [("a", -FAR, 1), ("b", 0, 1), ("c", FAR, 1)]
        self.check(people, [("a", FAR), ("c", FAR)], None)
        self.check(people, [("a", FAR), ("c", FAR - 1)], ("apart",))
        self.check(people, [("b", FAR + 1)], ("row", 0))

    def test_shifted(self):
        for by in [FAR, -FAR]:
            standing = shifted_standing(Standing(S), by)
            self.assertIsNone(judge_meeting(standing, meet_script(standing, 7)))


if __name__ == "__main__":
    unittest.main()
