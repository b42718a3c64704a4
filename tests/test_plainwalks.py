import random
import unittest

import plain
from oddcrowds.calls import callers
from oddcrowds.errors import TooGreat, UnlikePeople
from oddcrowds.plainwalks import numbers_by_walks, reached, script_by_walks
from oddcrowds.scripts import calls_of, walked
from oddcrowds.standings import Standing
from plain import S
from values import no_integers

FAR = 10 ** 30


def at(people, places):
    return Standing([(name, place, voice) for (name, _, voice), place in zip(people, places)])


def all_loud(*places):
    return Standing([("p" + str(k), place, 1) for k, place in enumerate(places)])


def places_of(standing):
    return tuple(place for _, place, _ in standing.people())


class ReachedTest(unittest.TestCase):
    def check(self, people):
        standing = Standing(people)
        with self.subTest(people=people):
            found = reached(standing)
            told = plain.numbers_from(people)
            order = sorted(told, key=lambda rows: [place for _, place, _ in rows])
            self.assertEqual(found, [(Standing(rows), sorted(told[rows])) for rows in order])
            self.assertEqual({type(row) for row in found}, {tuple})
            self.assertEqual(standing, Standing(people))

    def test_small_ones(self):
        self.assertEqual(reached(Standing([])), [(Standing([]), [0])])
        together = Standing([("a", 7, 1), ("b", 7, 0)])
        self.assertEqual(reached(together), [(together, [0])])
        quiet = Standing([("a", 7, 0), ("b", 9, 0)])
        self.assertEqual(reached(quiet), [(quiet, [0])])
        people = [("b", 2, 1), ("a", 0, 1)]
        self.assertEqual(reached(Standing(people)),
                         [(at(people, (0, 0)), [2]), (at(people, (1, 0)), [1]), (at(people, (1, 1)), [2]),
                          (at(people, (2, 0)), [0]), (at(people, (2, 1)), [1]), (at(people, (2, 2)), [2])])

    def test_example(self):
        self.check(S)
        found = reached(Standing(S))
        self.assertIn((at(S, (5, 5, 5, 5)), [5, 6, 7, 8, 9]), found)
        self.assertIn((at(S, (2, 4, 4, 7)), [2, 3]), found)
        self.assertIn((at(S, (1, 1, 2, 6)), [4]), found)

    def test_people_in_another_order(self):
        self.check(S[::-1])
        self.check([S[2], S[0], S[3], S[1]])

    def test_like_the_plain_way(self):
        lot = random.Random(1)
        for _ in range(80):
            self.check(plain.random_people(lot, 6, 8))

    def test_far_away(self):
        people = [("a", FAR - 3, 1), ("b", FAR, 1), ("c", FAR - 1, 0)]
        self.check(people)
        self.check([("a", -FAR, 1), ("b", 2 - FAR, 1), ("c", 3 - FAR, 1)])

    def test_five_hundred_are_told(self):
        standing = all_loud(0, 4, 11, 14, 19)
        found = reached(standing)
        self.assertEqual(len(found), 500)
        order = [places_of(one) for one, _ in found]
        self.assertEqual(order, sorted(order))
        self.assertEqual(found[-1][0], max((one for one, _ in found), key=places_of))
        self.assertIn((standing, [0]), found)
        for _, numbers in found:
            self.assertEqual(numbers, sorted(set(numbers)))
        self.assertEqual(reached(standing), found)

    def test_five_hundred_and_one_are_too_many(self):
        standing = all_loud(3, 11, 14, 18, 21)
        told = plain.numbers_from(standing.people())
        self.assertEqual(len(told), 501)
        with self.assertRaises(TooGreat):
            reached(standing)
        # The other functions do not mind.
        for other in [all_loud(6, 14, 14, 15, 18), all_loud(9, 9, 9, 9, 9)]:
            numbers = numbers_by_walks(standing, other)
            self.assertEqual(numbers, sorted(told[tuple(other.people())]))
            self.assertEqual(walked(standing, script_by_walks(standing, other, numbers[0])), other)

    def test_many_more_are_too_many(self):
        for people in [[("p" + str(k), k * 30 // 39, 1) for k in range(40)],
                       [("p" + str(k), k % 31, k % 2) for k in range(40)], [("a", 0, 1), ("b", 9, 1), ("c", 19, 1),
                                                                           ("d", 24, 1), ("e", 30, 1)]]:
            with self.assertRaises(TooGreat):
                reached(Standing(people))

    def test_nothing_is_shared(self):
        standing = Standing(S)
        found = reached(standing)
        lists = [numbers for _, numbers in found]
        self.assertEqual(len({id(numbers) for numbers in lists}), len(lists))
        for numbers in lists:
            numbers.append(99)
        found.clear()
        self.check(S)


class NumbersTest(unittest.TestCase):
    def test_example(self):
        one = Standing(S)
        self.assertEqual(numbers_by_walks(one, at(S, (5, 5, 5, 5))), [5, 6, 7, 8, 9])
        self.assertEqual(numbers_by_walks(one, at(S, (2, 4, 4, 7))), [2, 3])
        self.assertEqual(numbers_by_walks(one, at(S, (4, 4, 4, 4))), [])
        self.assertEqual(numbers_by_walks(one, at(S, (0, 3, 4, 8))), [])
        self.assertEqual(numbers_by_walks(one, at(S, (0, 3, 4, 10))), [])
        self.assertEqual(numbers_by_walks(one, at(S, (FAR, 0, -FAR, 9))), [])

    def test_from_a_standing_to_itself(self):
        for people in [[], S, [("a", 5, 1)], [("a", 5, 0), ("b", 9, 0)]]:
            self.assertEqual(numbers_by_walks(Standing(people), Standing(people)), [0])
            self.assertEqual(script_by_walks(Standing(people), Standing(people), 0), [])
            self.assertIsNone(script_by_walks(Standing(people), Standing(people), 1))

    def test_never_back(self):
        self.assertEqual(numbers_by_walks(at(S, (5, 5, 5, 5)), Standing(S)), [])
        self.assertIsNone(script_by_walks(at(S, (5, 5, 5, 5)), Standing(S), 5))

    def test_one_greater_than_those_behind_one_call(self):
        one, other = Standing(S), at(S, (5, 5, 5, 5))
        behind = [numbers_by_walks(walked(one, [(name, 1)]), other) for name in callers(one)]
        self.assertEqual(sorted({number + 1 for numbers in behind for number in numbers}), [5, 6, 7, 8, 9])

    def test_like_the_plain_way(self):
        lot = random.Random(2)
        for _ in range(30):
            people = plain.random_people(lot, 5, 7)
            told = plain.numbers_from(people)
            for rows in lot.sample(sorted(told), min(len(told), 12)):
                other = list(rows)
                with self.subTest(people=people, other=other):
                    self.assertEqual(numbers_by_walks(Standing(people), Standing(other)), sorted(told[rows]))
                    if other:
                        other[0] = (other[0][0], other[0][1] + 1, other[0][2])
                        self.assertEqual(numbers_by_walks(Standing(people), Standing(other)),
                                         sorted(told.get(tuple(other), [])))

    def test_nothing_is_shared(self):
        one, other = Standing(S), at(S, (2, 4, 4, 7))
        numbers_by_walks(one, other).clear()
        self.assertEqual(numbers_by_walks(one, other), [2, 3])


class ScriptTest(unittest.TestCase):
    def check(self, one, other, calls):
        script = script_by_walks(one, other, calls)
        with self.subTest(one=one.people(), other=other.people(), calls=calls):
            self.assertIs(type(script), list)
            self.assertEqual(walked(one, script), other)
            self.assertEqual(calls_of(script), calls)
            self.assertLessEqual(len(script), 400)
            self.assertEqual(script_by_walks(one, other, calls), script)

    def test_example(self):
        for calls in range(5, 10):
            self.check(Standing(S), at(S, (5, 5, 5, 5)), calls)
        for calls in [2, 3]:
            self.check(Standing(S), at(S, (2, 4, 4, 7)), calls)
        self.check(Standing(S), at(S, (0, 2, 3, 8)), 1)

    def test_numbers_that_there_are_not(self):
        for calls in [-1, -5, 0, 4, 10, 11, 100, FAR, -FAR]:
            with self.subTest(calls=calls):
                self.assertIsNone(script_by_walks(Standing(S), at(S, (5, 5, 5, 5)), calls))
        for calls in range(-2, 12):
            self.assertIsNone(script_by_walks(Standing(S), at(S, (4, 4, 4, 4)), calls))

    def test_values_that_are_no_numbers(self):
        one, other = Standing(S), at(S, (0, 2, 3, 8))
        self.check(one, other, 1)
        for value in no_integers() + [[1], (1,), "1", {1: 1}]:
            with self.subTest(value=value):
                self.assertIsNone(script_by_walks(one, other, value))
                self.assertIsNone(script_by_walks(one, one, value))

    def test_each_number_that_there_is(self):
        lot = random.Random(3)
        for _ in range(25):
            people = plain.random_people(lot, 5, 7)
            told = plain.numbers_from(people)
            for rows in lot.sample(sorted(told), min(len(told), 6)):
                for calls in range(0, 16):
                    if calls in told[rows]:
                        self.check(Standing(people), Standing(rows), calls)
                    else:
                        self.assertIsNone(script_by_walks(Standing(people), Standing(rows), calls))

    def test_nobody(self):
        self.assertEqual(script_by_walks(Standing([]), Standing([]), 0), [])
        self.assertIsNone(script_by_walks(Standing([]), Standing([]), 1))


class UnlikeTest(unittest.TestCase):
    def test_unlike_people(self):
        one = Standing(S)
        for other in [[], S[:3], S[::-1], S + [("eve", 5, 0)], [S[1], S[0]] + S[2:],
                      [("ann", 0, 0)] + S[1:], [("eve", 0, 1)] + S[1:]]:
            with self.subTest(other=other):
                for first, second in [(one, Standing(other)), (Standing(other), one)]:
                    with self.assertRaises(UnlikePeople):
                        numbers_by_walks(first, second)
                    for calls in [0, 1, 5, None, "1", True]:
                        with self.assertRaises(UnlikePeople):
                            script_by_walks(first, second, calls)


if __name__ == "__main__":
    unittest.main()
