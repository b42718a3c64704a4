import itertools
import random
import unittest

import plain
from oddcrowds.calls import called, callers, is_quiet
from oddcrowds.errors import BadNumber, BadStanding, OddVoices
from oddcrowds.gaps import gaps
from oddcrowds.parting import end_of_width, is_end, left_calls, widths
from oddcrowds.scripts import walked
from oddcrowds.standings import Standing, shifted_standing
from oddcrowds.sums import turn_sum, voice_places
from plain import S
from values import anything, no_integers

FAR = 10 ** 30

# The example of S5.8.
T = [("ann", 0, 1), ("bob", 1, 1), ("cid", 2, 1), ("dan", 3, 1)]
ODD = [[("a", 5, 1)], [("a", 0, 1), ("b", 5, 0)], S, T[:3], T + [("eve", 9, 1)]]


def even_people(lot, most, wide):
    people = plain.random_people(lot, most, wide)
    return plain.with_voices(people, 0) if people else people


def at(people, places):
    return Standing([(name, place, voice) for (name, _, voice), place in zip(people, places)])


def all_near(people, by):
    """All standings with these people up to so far from where they are together or stand."""
    low = min(place for _, place, _ in people) - by
    high = max(place for _, place, _ in people) + by
    for places in itertools.product(range(low, high + 1), repeat=len(people)):
        yield at(people, places)


class LeftCallsTest(unittest.TestCase):
    def check(self, people, calls):
        with self.subTest(people=people):
            self.assertEqual(left_calls(Standing(people)), calls)

    def test_examples(self):
        self.check(T, 2)
        self.check(T[::-1], 2)
        self.check([("a", 0, 1), ("b", 7, 1)], 7)
        self.check([("a", 0, 1), ("b", 7, 0), ("c", 9, 1)], 9)
        self.check([("a", -FAR, 1), ("b", FAR, 1)], 2 * FAR)

    def test_quiet_ones(self):
        self.check([], 0)
        self.check([("a", 5, 0), ("b", 9, 0)], 0)
        self.check([("a", 5, 1), ("b", 5, 1), ("c", 9, 0)], 0)

    def test_whoever_calls(self):
        lot = random.Random(1)
        for _ in range(300):
            now = Standing(even_people(lot, 7, 9))
            left = left_calls(now)
            self.assertEqual(left, -turn_sum(now))
            while callers(now):
                now = called(now, lot.choice(callers(now)))
                left -= 1
                self.assertEqual(left_calls(now), left)
            self.assertEqual(left, 0)
            self.assertTrue(is_quiet(now))
            places = voice_places(now)
            self.assertEqual(places[::2], places[1::2])

    def test_somebody_can_call_as_long_as_there_is_an_odd_gap(self):
        lot = random.Random(2)
        for _ in range(300):
            standing = Standing(even_people(lot, 7, 9))
            odd = any(kind == "odd" for _, _, kind in gaps(standing))
            self.assertEqual(is_quiet(standing), not odd)
            self.assertEqual(left_calls(standing) == 0, not odd)

    def test_odd_voices(self):
        for people in ODD:
            for function in [left_calls, widths]:
                with self.subTest(people=people, function=function.__name__):
                    with self.assertRaises(OddVoices):
                        function(Standing(people))


class IsEndTest(unittest.TestCase):
    def check(self, people, places, told):
        with self.subTest(people=people, places=places):
            self.assertIs(is_end(Standing(people), at(people, places)), told)

    def test_example(self):
        for places in [(2, 2, 2, 2), (1, 1, 1, 1), (1, 1, 2, 2)]:
            self.check(T, places, True)
        for places in [(2, 2, 3, 3), (0, 0, 0, 0), (0, 0, 1, 1), (0, 1, 2, 3), (1, 1, 1, 2), (3, 3, 3, 3), (1, 1, 3, 3),
                       (2, 2, 1, 1), (1, 2, 1, 2)]:
            self.check(T, places, False)

    def test_nobody_and_quiet_ones(self):
        self.assertIs(is_end(Standing([]), Standing([])), True)
        self.check([("a", 5, 0)], (5,), True)
        self.check([("a", 5, 0)], (6,), False)
        self.check([("a", 5, 0), ("b", 9, 0)], (5, 9), True)
        self.check([("a", 5, 0), ("b", 9, 0)], (5, 8), False)
        self.check([("a", 5, 0), ("b", 9, 0)], (6, 9), False)
        self.check([("a", 5, 1), ("b", 5, 1), ("c", 9, 0)], (5, 5, 9), True)
        self.check([("a", 5, 1), ("b", 5, 1), ("c", 9, 0)], (5, 6, 9), False)

    def test_like_call_by_call_for_all_near(self):
        lot = random.Random(3)
        seen = 0
        for _ in range(60):
            people = even_people(lot, 4, 5)
            if not people:
                continue
            ends = [Standing(list(end)) for end in plain.ends_of(people, plain.numbers_from(people))]
            for other in all_near(people, 1):
                told = other in ends
                seen += told
                self.assertIs(is_end(Standing(people), other), told, (people, other.people()))
        self.assertGreater(seen, 60)

    def test_like_call_by_call_for_quiet_ones(self):
        lot = random.Random(4)
        for _ in range(150):
            people = even_people(lot, 7, 9)
            told = plain.numbers_from(people)
            ends = plain.ends_of(people, told)
            for row in told:
                self.assertIs(is_end(Standing(people), Standing(list(row))), list(row) in ends)
            for end in ends:
                for by in [-2, -1, 1, 2]:
                    other = [(name, place + by, voice) for name, place, voice in end]
                    self.assertIs(is_end(Standing(people), Standing(other)), other in ends)

    def test_other_people_and_other_orders(self):
        end = [("ann", 1, 1), ("bob", 1, 1), ("cid", 2, 1), ("dan", 2, 1)]
        self.assertIs(is_end(Standing(T), Standing(end)), True)
        for other in [end[::-1], [end[1], end[0]] + end[2:], end[:2], end + [("eve", 2, 0)], [], S,
                      [("eve", 1, 1)] + end[1:], [("ann", 1, 0)] + end[1:],
                      [("ann", 1, 0), ("bob", 1, 0)] + end[2:]]:
            with self.subTest(other=other):
                self.assertIs(is_end(Standing(T), Standing(other)), False)

    def test_values_of_all_kinds(self):
        end = [("ann", 1, 1), ("bob", 1, 1), ("cid", 2, 1), ("dan", 2, 1)]
        for value in anything() + [end, tuple(end), (1, 1, 2, 2), [Standing(end)], (Standing(end),), BadStanding(())]:
            with self.subTest(value=value):
                self.assertIs(is_end(Standing(T), value), False)

    def test_far_away(self):
        people = [("a", -FAR, 1), ("b", FAR, 1)]
        for place, told in [(-FAR, True), (0, True), (FAR, True), (FAR + 1, False), (-FAR - 1, False)]:
            self.check(people, (place, place), told)
        people = [("a", -FAR, 1), ("b", -1, 1), ("c", 1, 1), ("d", FAR, 1)]
        self.check(people, (-1, -1, 1, 1), True)
        self.check(people, (-FAR, -FAR, 2 - FAR, 2 - FAR), False)
        self.check(people, (-2, -2, -2, -2), True)
        for place, told in [(FAR - 2, True), (FAR - 1, False), (2 - FAR, True), (1 - FAR, False)]:
            self.check(people, (place,) * 4, told)

    def test_odd_voices_ahead_of_all_else(self):
        for people in ODD:
            for value in [Standing(people), Standing([]), None, True, 5, "a", people]:
                with self.assertRaises(OddVoices):
                    is_end(Standing(people), value)


class WidthTest(unittest.TestCase):
    def check(self, people, least, most):
        standing = Standing(people)
        with self.subTest(people=people):
            self.assertEqual(widths(standing), (least, most))
            self.assertIs(type(widths(standing)), tuple)

    def check_end(self, people, width):
        standing = Standing(people)
        with self.subTest(people=people, width=width):
            end = end_of_width(standing, width)
            self.assertIs(is_end(standing, end), True)
            self.assertEqual(plain.width_of(end.people()), width)
            self.assertEqual(end_of_width(standing, width), end)
            self.assertEqual(standing, Standing(people))

    def test_examples(self):
        self.check(T, 0, 1)
        self.check(T[::-1], 0, 1)
        self.check([("a", 0, 1), ("b", 7, 1)], 0, 0)
        self.check([("a", 0, 1), ("b", 2, 1), ("c", 9, 0)], 5, 7)
        self.check([("c", -7, 0), ("a", 0, 1), ("b", 2, 1)], 5, 7)

    def test_nobody_and_quiet_ones(self):
        for people, width in [([], 0), ([("a", 5, 0)], 0), ([("a", 5, 0), ("b", 9, 0)], 4),
                              ([("a", 5, 1), ("b", 5, 1), ("c", 9, 0)], 4)]:
            self.check(people, width, width)
            self.check_end(people, width)
            self.assertEqual(end_of_width(Standing(people), width), Standing(people))

    def test_like_all_ends(self):
        lot = random.Random(5)
        for _ in range(200):
            people = even_people(lot, 7, 10)
            found = {plain.width_of(end) for end in plain.ends_of(people, plain.numbers_from(people))}
            self.check(people, min(found), max(found))
            self.assertEqual(sorted(found), list(range(min(found), max(found) + 1)))
            for width in found:
                self.check_end(people, width)

    def test_far_away(self):
        people = [("a", -FAR, 1), ("b", -1, 1), ("c", FAR, 0)]
        self.check(people, 2, FAR + 1)
        for width in [2, 3, FAR // 2, FAR, FAR + 1]:
            self.check_end(people, width)

    def test_forty_people(self):
        lot = random.Random(6)
        for k in range(40):
            wide = 10 ** 28 if k % 2 else 3
            rows = [("p" + str(k), k * wide + lot.randrange(wide) - FAR // 2, lot.randrange(2)) for k in range(40)]
            people = plain.with_voices(lot.sample(rows, 40), 0)
            least, most = widths(Standing(people))
            for width in [least, (least + most) // 2, most]:
                self.check_end(people, width)

    def test_no_widths(self):
        for people, least, most in [(T, 0, 1), ([("a", 0, 1), ("b", 2, 1), ("c", 9, 0)], 5, 7), ([], 0, 0),
                                    ([("a", 5, 0), ("b", 9, 0)], 4, 4),
                                    ([("a", -FAR, 1), ("b", -1, 1), ("c", FAR, 0)], 2, FAR + 1)]:
            beside = [least - 1, most + 1, -least - 1, most + FAR, -FAR]
            for value in beside + no_integers() + [[least], (least,), str(least), {least: least}]:
                with self.subTest(people=people, value=value):
                    with self.assertRaises(BadNumber) as caught:
                        end_of_width(Standing(people), value)
                    self.assertEqual((caught.exception.least, caught.exception.most), (least, most))

    def test_odd_voices_ahead_of_all_else(self):
        for people in ODD:
            for width in [0, 1, -1] + no_integers():
                with self.assertRaises(OddVoices):
                    end_of_width(Standing(people), width)


class ExampleTest(unittest.TestCase):
    def test_if_bob_calls_first(self):
        behind = called(Standing(T), "bob")
        self.assertEqual(behind, at(T, (1, 1, 1, 2)))
        self.assertEqual([kind for _, _, kind in gaps(behind)], ["odd"])
        self.assertEqual(walked(behind, [("dan", 1)]), at(T, (2, 2, 2, 2)))
        self.assertEqual(walked(behind, [("ann", 1)]), at(T, (1, 1, 1, 1)))

    def test_shifted(self):
        for by in [-FAR, -1, FAR]:
            standing = shifted_standing(Standing(T), by)
            self.assertEqual(widths(standing), (0, 1))
            self.assertEqual(left_calls(standing), 2)
            self.assertTrue(is_end(standing, at(T, (1 + by, 1 + by, 2 + by, 2 + by))))
            self.assertFalse(is_end(standing, at(T, (1, 1, 2, 2))))


if __name__ == "__main__":
    unittest.main()
