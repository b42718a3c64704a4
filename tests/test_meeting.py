import random
import unittest

import plain
from oddcrowds.calls import called, callers, is_quiet
from oddcrowds.errors import BadNumber, EvenVoices
from oddcrowds.gaps import even_sum, odd_sum
from oddcrowds.heights import greatest_height
from oddcrowds.meeting import call_numbers, meeting_place, share_of
from oddcrowds.standings import Standing, shifted_standing, turned_standing
from oddcrowds.sums import turn_sum
from plain import S
from values import no_integers

FAR = 10 ** 30

EVEN = [[], [("a", 5, 0)], [("a", 5, 1), ("b", 5, 1)], [("a", 0, 1), ("b", 5, 1)], S[:3], S + [("eve", 20, 1)],
        [("a", 0, 0), ("b", 9, 0)]]


def odd_people(lot, most, wide):
    return plain.with_voices(plain.random_people(lot, most, wide), 1)


class MeetingTest(unittest.TestCase):
    def check(self, people, place, least, most):
        standing = Standing(people)
        with self.subTest(people=people):
            self.assertEqual(meeting_place(standing), place)
            self.assertEqual(call_numbers(standing), (least, most))
            self.assertIs(type(call_numbers(standing)), tuple)
            self.assertEqual(standing, Standing(people))

    def test_example(self):
        self.check(S, 5, 5, 9)
        self.check(S[::-1], 5, 5, 9)
        self.check([S[2], S[0], S[3], S[1]], 5, 5, 9)

    def test_one_person(self):
        self.check([("a", 7, 1)], 7, 0, 0)
        self.check([("a", -FAR, 1)], -FAR, 0, 0)

    def test_all_at_one_place(self):
        self.check([("a", 7, 1), ("b", 7, 0)], 7, 0, 0)
        self.check([("a", -2, 1), ("b", -2, 1), ("c", -2, 1), ("d", -2, 0)], -2, 0, 0)

    def test_two_crowds(self):
        self.check([("a", 0, 1), ("b", 7, 0)], 0, 7, 7)
        self.check([("a", 0, 0), ("b", 7, 1)], 7, 7, 7)
        self.check([("a", 0, 1), ("b", 7, 1), ("c", 7, 1)], 0, 7, 7)

    def test_three_crowds(self):
        self.check([("a", 0, 1), ("b", 3, 1), ("c", 5, 1)], 2, 3, 5)
        self.check([("a", 0, 0), ("b", 3, 1), ("c", 5, 0)], 3, 3, 3)
        self.check([("a", 0, 0), ("b", 2, 1), ("c", 5, 0)], 2, 3, 3)

    def test_far_away(self):
        self.check([("a", -FAR, 1), ("b", 0, 1), ("c", FAR, 1)], 0, FAR, 2 * FAR)
        self.check([("a", -FAR, 0), ("b", 1, 1), ("c", FAR, 0)], 1, FAR + 1, FAR + 1)

    def test_forty_people(self):
        people = [("p" + str(k), k * 10 ** 28, 1 if k < 39 else 0) for k in range(40)]
        self.check(people, 19 * 10 ** 28, 20 * 10 ** 28, 20 * 10 ** 28)

    def test_turned_and_shifted(self):
        lot = random.Random(1)
        for _ in range(100):
            standing = Standing(odd_people(lot, 7, 20))
            by = lot.choice([-FAR, -3, 1, FAR])
            self.assertEqual(meeting_place(turned_standing(standing)), -meeting_place(standing))
            self.assertEqual(meeting_place(shifted_standing(standing, by)), meeting_place(standing) + by)
            self.assertEqual(call_numbers(turned_standing(standing)), call_numbers(standing))
            self.assertEqual(call_numbers(shifted_standing(standing, by)), call_numbers(standing))

    def test_even_voices(self):
        for people in EVEN:
            for function in [meeting_place, call_numbers]:
                with self.subTest(people=people, function=function.__name__):
                    with self.assertRaises(EvenVoices):
                        function(Standing(people))


class WhoeverCallsTest(unittest.TestCase):
    def test_never_quiet_ahead_of_the_end(self):
        lot = random.Random(2)
        for _ in range(300):
            standing = Standing(odd_people(lot, 7, 9))
            self.assertEqual(is_quiet(standing), standing.is_together())

    def test_all_come_together_at_the_place_which_stays_the_same(self):
        lot = random.Random(3)
        for _ in range(200):
            people = odd_people(lot, 7, 12)
            now, place = Standing(people), meeting_place(Standing(people))
            least, most = call_numbers(now)
            calls = 0
            while not now.is_together():
                now = called(now, lot.choice(callers(now)))
                calls += 1
                self.assertEqual(meeting_place(now), place)
                self.assertEqual(turn_sum(now), place)
            self.assertEqual(now.places(), [place])
            self.assertTrue(least <= calls <= most)

    def test_what_a_call_does_to_the_two_numbers(self):
        lot = random.Random(4)
        for _ in range(300):
            standing = Standing(odd_people(lot, 7, 12))
            if standing.is_together():
                continue
            least, most = call_numbers(standing)
            behind = [call_numbers(called(standing, name)) for name in callers(standing)]
            self.assertEqual(min(one for one, _ in behind), least - 1)
            self.assertEqual(max(one for _, one in behind), most - 1)

    def test_the_numbers_are_sums_and_the_greatest_height(self):
        lot = random.Random(5)
        for _ in range(100):
            standing = Standing(odd_people(lot, 20, 10 ** 30))
            least, most = call_numbers(standing)
            self.assertEqual(least, max(odd_sum(standing), even_sum(standing)))
            self.assertEqual(most, even_sum(standing) + greatest_height(standing)[0])
            self.assertEqual(meeting_place(standing), standing.places()[0] + even_sum(standing))

    def test_like_call_by_call(self):
        lot = random.Random(6)
        for _ in range(150):
            people = odd_people(lot, 6, 9)
            told = plain.numbers_from(people)
            least, most = call_numbers(Standing(people))
            ends = [row for row in told if not plain.callers(row)]
            with self.subTest(people=people):
                self.assertEqual(len(ends), 1)
                self.assertEqual({place for _, place, _ in ends[0]}, {meeting_place(Standing(people))})
                self.assertEqual(sorted(told[ends[0]]), list(range(least, most + 1)))


class ShareTest(unittest.TestCase):
    def check(self, people, calls, share):
        with self.subTest(people=people, calls=calls):
            found = share_of(Standing(people), calls)
            self.assertEqual(found, share)
            self.assertIs(type(found), tuple)

    def test_example(self):
        for calls, share in [(5, (0, 4, 1)), (6, (1, 3, 2)), (7, (2, 2, 3)), (8, (3, 1, 4)), (9, (4, 0, 5))]:
            self.check(S, calls, share)
            self.check(S[::-1], calls, share)

    def test_one_place(self):
        self.check([("a", 7, 1)], 0, (0, 0, 0))
        self.check([("a", 7, 1), ("b", 7, 0)], 0, (0, 0, 0))

    def test_two_crowds(self):
        self.check([("a", 0, 1), ("b", 7, 0)], 7, (7, 0, 0))
        self.check([("a", 0, 0), ("b", 7, 1)], 7, (0, 0, 7))

    def test_far_away(self):
        people = [("a", -FAR, 1), ("b", 0, 1), ("c", FAR, 1)]
        self.check(people, FAR, (0, FAR, 0))
        self.check(people, FAR + 1, (1, FAR - 1, 1))
        self.check(people, 2 * FAR, (FAR, 0, FAR))

    def test_like_call_by_call(self):
        lot = random.Random(7)
        for _ in range(120):
            people = odd_people(lot, 6, 8)
            told = plain.shares_from(people)
            shares = [share for row in told if not plain.callers(row) for share in told[row]]
            least, most = call_numbers(Standing(people))
            self.assertEqual(len(shares), most - least + 1)
            for share in shares:
                self.check(people, sum(share), share)

    def test_numbers_that_there_are_not(self):
        for people, least, most in [(S, 5, 9), ([("a", 7, 1)], 0, 0), ([("a", 0, 1), ("b", 7, 0)], 7, 7),
                                    ([("a", -FAR, 1), ("b", 0, 1), ("c", FAR, 1)], FAR, 2 * FAR)]:
            beside = [least - 1, most + 1, -least - 1, most + FAR, least - FAR, 10 ** 39 + most]
            for value in beside + no_integers() + [[least], (least,), str(least), {least: least}]:
                with self.subTest(people=people, value=value):
                    with self.assertRaises(BadNumber) as caught:
                        share_of(Standing(people), value)
                    self.assertEqual((caught.exception.least, caught.exception.most), (least, most))

    def test_even_voices_ahead_of_all_else(self):
        for people in EVEN:
            for calls in [0, 1, 5, -1, FAR] + no_integers():
                with self.subTest(people=people, calls=calls):
                    with self.assertRaises(EvenVoices):
                        share_of(Standing(people), calls)


if __name__ == "__main__":
    unittest.main()
