import random
import unittest

import plain
from oddcrowds.endnumbers import drawn_end, end_at, end_number, next_end
from oddcrowds.ends import all_ends, count_ends
from oddcrowds.errors import NoLead, OddVoices, TooGreat
from oddcrowds.parting import is_end
from oddcrowds.standings import Standing, shifted_standing
from test_ends import FIVE_HUNDRED, VERY_MANY, ends_by_choices
from test_parting import ODD, T, at, even_people
from values import anything

FAR = 10 ** 30
BIG = 10 ** 60 - 1

SMALL = [[], [("a", 5, 0)], [("a", 5, 0), ("b", 9, 0)], [("a", 5, 1), ("b", 5, 1), ("c", 9, 0)], T, T[::-1],
         [("a", 0, 1), ("b", 60, 1)]]


class NumbersTest(unittest.TestCase):
    def check_all(self, people, ends):
        standing = Standing(people)
        with self.subTest(people=people):
            for number, rows in enumerate(ends):
                end = Standing(list(rows))
                self.assertEqual(end_at(standing, number), end)
                self.assertEqual(end_number(standing, end), number)
                self.assertIs(type(end_number(standing, end)), int)
                behind = Standing(list(ends[number + 1])) if number + 1 < len(ends) else None
                self.assertEqual(next_end(standing, end), behind)
                for rounds in [0, 1, 7, 10 ** 58]:
                    self.assertEqual(drawn_end(standing, number + rounds * len(ends)), end)
            self.assertEqual(standing, Standing(people))

    def test_example(self):
        self.check_all(T, [at(T, places).people() for places in [(2, 2, 2, 2), (1, 1, 1, 1), (1, 1, 2, 2)]])

    def test_small_ones(self):
        for people in SMALL:
            self.check_all(people, [end.people() for end in all_ends(Standing(people))])

    def test_like_call_by_call(self):
        lot = random.Random(1)
        for _ in range(120):
            people = even_people(lot, 7, 10)
            self.check_all(people, plain.ends_of(people, plain.numbers_from(people)))

    def test_five_hundred(self):
        self.check_all(FIVE_HUNDRED, [end.people() for end in all_ends(Standing(FIVE_HUNDRED))])

    def test_far_away(self):
        for by in [FAR, -FAR]:
            people = [(name, place + by, voice) for name, place, voice in T]
            self.check_all(people, [end.people() for end in all_ends(Standing(people))])

    def test_very_many(self):
        standing = Standing(VERY_MANY)
        keys = ends_by_choices(VERY_MANY)
        for number in list(range(0, len(keys), 4999)) + [1, 2, len(keys) - 2, len(keys) - 1]:
            end = end_at(standing, number)
            with self.subTest(number=number):
                self.assertTrue(is_end(standing, end))
                self.assertEqual(plain.end_key(VERY_MANY, end.people()), keys[number])
                self.assertEqual(end_number(standing, end), number)
                self.assertEqual(drawn_end(standing, number), end)
                behind = end_at(standing, number + 1) if number + 1 < len(keys) else None
                self.assertEqual(next_end(standing, end), behind)

    def test_numbers_of_60_digits(self):
        for people in SMALL + [FIVE_HUNDRED, VERY_MANY]:
            standing = Standing(people)
            many = count_ends(standing)
            for number in [BIG, BIG - 1, 10 ** 59, 123456789 * 10 ** 50 + 77]:
                self.assertEqual(drawn_end(standing, number), end_at(standing, number % many))


class ErrorsTest(unittest.TestCase):
    def test_too_great_numbers(self):
        for people in SMALL + [FIVE_HUNDRED, VERY_MANY]:
            standing = Standing(people)
            many = count_ends(standing)
            for number in [many, many + 1, 10 ** 59, BIG]:
                with self.subTest(people=people, number=number):
                    with self.assertRaises(TooGreat):
                        end_at(standing, number)

    def check_no_end(self, people, value):
        for function in [end_number, next_end]:
            with self.subTest(people=people, value=value, function=function.__name__):
                with self.assertRaises(NoLead) as caught:
                    function(Standing(people), value)
                self.assertIsNone(caught.exception.paper)

    def test_no_ends(self):
        for places in [(0, 0, 0, 0), (2, 2, 3, 3), (0, 1, 2, 3), (1, 1, 1, 2), (3, 3, 3, 3), (2, 2, 1, 1)]:
            self.check_no_end(T, at(T, places))
        self.check_no_end(T, Standing([]))
        self.check_no_end([], Standing(T))
        self.check_no_end(T, at(T[::-1], (2, 2, 2, 2)))
        self.check_no_end(T, shifted_standing(at(T, (1, 1, 1, 1)), FAR))
        for value in anything() + [T, tuple(T), (1, 1, 1, 1), 0, 1, 2]:
            self.check_no_end(T, value)

    def test_nobody(self):
        self.assertEqual(end_at(Standing([]), 0), Standing([]))
        self.assertEqual(end_number(Standing([]), Standing([])), 0)
        self.assertIsNone(next_end(Standing([]), Standing([])))
        self.assertEqual(drawn_end(Standing([]), BIG), Standing([]))

    def test_odd_voices_ahead_of_all_else(self):
        for people in ODD:
            standing = Standing(people)
            for function, values in [(end_at, [0, 1, BIG]), (drawn_end, [0, 1, BIG]),
                                     (end_number, [standing, Standing([]), None, 0, True]),
                                     (next_end, [standing, Standing([]), None, 0, True])]:
                for value in values:
                    with self.subTest(people=people, function=function.__name__):
                        with self.assertRaises(OddVoices):
                            function(standing, value)


if __name__ == "__main__":
    unittest.main()
