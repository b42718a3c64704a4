import random
import unittest

import plain
from oddcrowds.levels import count_above, least_height, places_at
from oddcrowds.standings import Standing
from plain import S
from values import no_integers

FAR = 10 ** 30


class PlacesAtTest(unittest.TestCase):
    def check(self, people, height, places):
        with self.subTest(people=people, height=height):
            self.assertEqual(places_at(Standing(people), height), places)

    def test_example(self):
        self.check(S, 3, [3, 5])
        self.check(S, -1, [9])
        self.check(S, 0, [0, 8])
        self.check(S, 4, [4])
        self.check(S[::-1], 1, [1, 7])

    def test_heights_that_come_about_nowhere(self):
        for height in [5, -2, FAR, -FAR]:
            self.check(S, height, [])

    def test_no_integers(self):
        for value in no_integers():
            self.check(S, value, [])
            self.check([], value, [])
            self.check([("a", 0, 0), ("b", 9, 1)], value, [])

    def test_nobody_and_one_place(self):
        self.check([], 0, [])
        self.check([("a", 7, 1), ("b", 7, 0)], 0, [7])
        self.check([("a", 7, 1), ("b", 7, 0)], 1, [])
        self.check([("a", 7, 1), ("b", 7, 0)], False, [])

    def test_an_end_of_two_gaps_is_told_once(self):
        self.check([("a", 0, 1), ("b", 2, 0), ("c", 4, 0)], 2, [2])
        self.check([("a", 0, 1), ("b", 2, 1), ("c", 4, 0)], 2, [2])
        self.check([("a", 0, 0), ("b", 2, 0), ("c", 4, 0)], -2, [2])
        self.check([("a", 0, 0), ("b", 2, 1), ("c", 4, 0)], 0, [0, 4])

    def test_wide_gaps(self):
        people = [("c", FAR, 0), ("a", -FAR, 1), ("b", 0, 1)]
        self.check(people, FAR, [0])
        self.check(people, FAR + 1, [])
        self.check(people, 5, [5 - FAR, FAR - 5])
        self.check(people, 0, [-FAR, FAR])
        self.check(people, -1, [])

    def test_integer_by_integer(self):
        lot = random.Random(7)
        for _ in range(300):
            people = plain.random_people(lot, 7, 14)
            found = plain.heights(people)
            for height in range(-16, 17):
                self.check(people, height, [at for at in found if found[at] == height])

    def test_nothing_is_shared(self):
        standing = Standing(S)
        places_at(standing, 3).clear()
        self.assertEqual(places_at(standing, 3), [3, 5])


class LeastHeightTest(unittest.TestCase):
    def check(self, people, told):
        with self.subTest(people=people):
            self.assertEqual(least_height(Standing(people)), told)

    def test_ordinary(self):
        self.check(S, (-1, 9))
        self.check(S[::-1], (-1, 9))
        self.check([("a", 2, 1), ("b", 5, 0)], (0, 2))
        self.check([("a", 2, 0), ("b", 5, 0)], (-3, 5))

    def test_nobody_and_one_place(self):
        self.check([], None)
        self.check([("a", -7, 1)], (0, -7))

    def test_the_least_integer(self):
        # The heights at the places are 0, 2, 0, 1 and then 0, -1, 1, -1.
        self.check([("a", 3, 1), ("b", 5, 1), ("c", 7, 1), ("d", 8, 1)], (0, 3))
        self.check([("a", 3, 0), ("b", 4, 1), ("c", 6, 1), ("d", 8, 1)], (-1, 4))

    def test_far_away(self):
        self.check([("b", FAR, 1), ("a", -FAR, 0)], (-2 * FAR, FAR))

    def test_integer_by_integer(self):
        lot = random.Random(8)
        for _ in range(300):
            people = plain.random_people(lot, 7, 14)
            found = plain.heights(people)
            if people:
                self.check(people, min((found[at], at) for at in found))


class CountAboveTest(unittest.TestCase):
    def check(self, people, height, many):
        with self.subTest(people=people, height=height):
            self.assertEqual(count_above(Standing(people), height), many)

    def test_example(self):
        self.check(S, 2, 5)
        for height, many in [(5, 0), (4, 1), (3, 3), (1, 7), (0, 9), (-1, 10), (-2, 10), (FAR, 0), (-FAR, 10)]:
            self.check(S, height, many)
            self.check(S[::-1], height, many)

    def test_nobody_and_one_place(self):
        for height in [0, 1, -1, FAR, -FAR]:
            self.check([], height, 0)
        for height, many in [(0, 1), (-1, 1), (-FAR, 1), (1, 0)]:
            self.check([("a", 7, 1), ("b", 7, 0)], height, many)

    def test_wide_gaps(self):
        people = [("c", FAR, 0), ("a", -FAR, 1), ("b", 0, 1)]
        for height, many in [(FAR + 1, 0), (FAR, 1), (FAR - 1, 3), (1, 2 * FAR - 1), (0, 2 * FAR + 1),
                             (-1, 2 * FAR + 1)]:
            self.check(people, height, many)
        people = [("b", FAR, 0), ("a", -FAR, 0)]
        for height, many in [(1, 0), (0, 1), (-1, 2), (-2 * FAR, 2 * FAR + 1), (1 - 2 * FAR, 2 * FAR)]:
            self.check(people, height, many)

    def test_integer_by_integer(self):
        lot = random.Random(9)
        for _ in range(300):
            people = plain.random_people(lot, 7, 14)
            found = plain.heights(people)
            for height in range(-16, 17):
                self.check(people, height, len([at for at in found if found[at] >= height]))


if __name__ == "__main__":
    unittest.main()
