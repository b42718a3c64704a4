import random
import unittest

import plain
from oddcrowds.gaps import even_sum, gaps, odd_sum
from oddcrowds.heights import greatest_fall, greatest_height, height_at, loud_places
from oddcrowds.standings import Standing, shifted_standing
from plain import S
from values import no_integers

FAR = 10 ** 30
HEIGHTS = [0, 1, 2, 3, 4, 3, 2, 1, 0, -1]


class HeightAtTest(unittest.TestCase):
    def test_example(self):
        self.assertEqual([height_at(Standing(S), at) for at in range(10)], HEIGHTS)

    def test_beyond_the_ends(self):
        for at in [-1, 10, -FAR, FAR, 10 ** 39]:
            self.assertIsNone(height_at(Standing(S), at))

    def test_no_integers(self):
        standing = Standing([("a", -5, 1), ("b", 5, 1)])
        for value in no_integers():
            with self.subTest(value=value):
                self.assertIsNone(height_at(standing, value))
                self.assertIsNone(height_at(Standing([]), value))

    def test_nobody_and_one_place(self):
        for at in [0, 1, -1, FAR]:
            self.assertIsNone(height_at(Standing([]), at))
        together = Standing([("a", 5, 1), ("b", 5, 0)])
        self.assertEqual([height_at(together, at) for at in [4, 5, 6]], [None, 0, None])
        self.assertIsNone(height_at(Standing([("a", 0, 1)]), False))
        self.assertIsNone(height_at(Standing([("a", 1, 1)]), True))

    def test_far_away(self):
        standing = Standing([("a", FAR, 0), ("b", -FAR, 1), ("c", 0, 1)])
        self.assertEqual([height_at(standing, at) for at in [-FAR - 1, -FAR, 1 - FAR, -1, 0, 1, FAR, FAR + 1]],
                         [None, 0, 1, FAR - 1, FAR, FAR - 1, 0, None])

    def test_people_in_another_order(self):
        for people in [S[::-1], [S[2], S[0], S[3], S[1]]]:
            self.assertEqual([height_at(Standing(people), at) for at in range(10)], HEIGHTS)

    def test_integer_by_integer(self):
        lot = random.Random(1)
        for _ in range(300):
            people = plain.random_people(lot, 7, 15)
            for at, height in plain.heights(people).items():
                with self.subTest(people=people, at=at):
                    self.assertEqual(height_at(Standing(people), at), height)

    def test_at_the_last_place_it_is_odd_sum_less_even_sum(self):
        lot = random.Random(2)
        for _ in range(100):
            standing = Standing(plain.random_people(lot, 9, FAR) + [("x", 0, 1)])
            self.assertEqual(height_at(standing, standing.places()[-1]), odd_sum(standing) - even_sum(standing))


class GreatestTest(unittest.TestCase):
    def check(self, people, height, fall):
        with self.subTest(people=people):
            self.assertEqual(greatest_height(Standing(people)), height)
            self.assertEqual(greatest_fall(Standing(people)), fall)

    def test_example(self):
        for people in [S, S[::-1], [S[2], S[0], S[3], S[1]]]:
            self.check(people, (4, 4), (5, 4, 9))

    def test_nobody(self):
        self.check([], None, None)

    def test_all_at_one_place(self):
        self.check([("a", 7, 1)], (0, 7), (0, 7, 7))
        self.check([("a", -FAR, 0), ("b", -FAR, 1)], (0, -FAR), (0, -FAR, -FAR))

    def test_all_gaps_odd(self):
        self.check([("a", 2, 1), ("b", 5, 0), ("c", 9, 1)], (7, 9), (0, 2, 2))

    def test_all_gaps_even(self):
        self.check([("a", 2, 0), ("b", 5, 0), ("c", 9, 1)], (0, 2), (7, 2, 9))

    def test_the_least_integer_of_a_greatest_height(self):
        # The heights at the places are 0, 2, -1, 2, 1.
        people = [("a", 0, 1), ("b", 2, 1), ("c", 5, 1), ("d", 8, 1), ("e", 9, 1)]
        self.check(people, (2, 2), (3, 2, 5))
        # They are 0, -3, 0, -1 here.
        self.check([("a", 0, 0), ("b", 3, 1), ("c", 6, 1), ("d", 7, 0)], (0, 0), (3, 0, 3))

    def test_the_least_integers_of_a_greatest_fall(self):
        # The heights at the places are 0, 2, -1, 2, -1, 1.
        people = [("a", 0, 1), ("b", 2, 1), ("c", 5, 1), ("d", 8, 1), ("e", 11, 1), ("f", 13, 0)]
        self.check(people, (2, 2), (3, 2, 5))
        # They are 0, -2, 1, -1, 2, 0 here: three falls of 2.
        people = [("a", 0, 0), ("b", 2, 1), ("c", 5, 1), ("d", 7, 1), ("e", 10, 1), ("f", 12, 1)]
        self.check(people, (2, 10), (2, 0, 2))

    def test_a_greatest_fall_that_goes_over_a_rise(self):
        # The heights at the places are 0, 3, 1, 2, -1.
        people = [("a", 0, 1), ("b", 3, 1), ("c", 5, 1), ("d", 6, 1), ("e", 9, 1)]
        self.check(people, (3, 3), (4, 3, 9))

    def test_far_away(self):
        self.check([("c", FAR, 1), ("a", -FAR, 0), ("b", 0, 0)], (0, -FAR), (2 * FAR, -FAR, FAR))
        self.check([("c", FAR, 1), ("a", -FAR, 1), ("b", 0, 1)], (FAR, 0), (FAR, 0, FAR))

    def test_integer_by_integer(self):
        lot = random.Random(3)
        for _ in range(400):
            people = plain.random_people(lot, 7, 12)
            found = plain.heights(people)
            if not people:
                continue
            least = min(at for at in found if found[at] == max(found.values()))
            falls = [(found[at] - found[right], -at, -right) for at in found for right in found if at <= right]
            fall, left, right = max(falls)
            self.check(people, (found[least], least), (fall, -left, -right))

    def test_what_is_told_is_a_tuple_of_integers(self):
        for found in [greatest_height(Standing(S)), greatest_fall(Standing(S))]:
            self.assertIs(type(found), tuple)
            self.assertEqual({type(number) for number in found}, {int})


class LoudPlacesTest(unittest.TestCase):
    def check(self, people, found):
        with self.subTest(people=people):
            self.assertEqual(loud_places(Standing(people)), found)

    def test_ordinary(self):
        self.check(S, [0, 4, 9])
        self.check(S[::-1], [0, 4, 9])
        self.check([("a", 4, 1), ("b", 4, 1), ("c", -3, 1), ("d", 8, 0)], [-3])
        self.check([("a", 4, 1), ("b", 4, 1), ("c", 4, 1), ("d", 8, 0)], [4])

    def test_nobody_or_nobody_elsewhere(self):
        self.check([], [])
        self.check([("a", 7, 1)], [7])
        self.check([("a", 7, 0)], [])
        self.check([("a", 7, 1), ("b", 7, 0)], [7])
        self.check([("a", 7, 1), ("b", 7, 1)], [])

    def test_far_away(self):
        self.check([("a", FAR, 1), ("b", -FAR, 1), ("c", 0, 0)], [-FAR, FAR])

    def test_the_kinds_of_the_gaps_tell_it(self):
        lot = random.Random(4)
        for _ in range(400):
            standing = Standing(plain.random_people(lot, 8, 12))
            places = standing.places()
            kinds = [kind for _, _, kind in gaps(standing)]
            # As if the gap ahead of all were even, and the one behind all told the number of all voices.
            kinds = ["even", *kinds, "odd" if standing.voices() % 2 == 1 else "even"]
            told = [place for k, place in enumerate(places) if kinds[k] != kinds[k + 1]]
            self.assertEqual(loud_places(standing), told)

    def test_nothing_is_shared(self):
        standing = Standing(S)
        loud_places(standing).clear()
        self.assertEqual(loud_places(standing), [0, 4, 9])
        self.assertEqual(standing, Standing(S))


class ShiftedTest(unittest.TestCase):
    def test_heights_go_with_the_places(self):
        far = shifted_standing(Standing(S), -FAR)
        self.assertEqual([height_at(far, at - FAR) for at in range(10)], HEIGHTS)
        self.assertEqual(greatest_height(far), (4, 4 - FAR))
        self.assertEqual(greatest_fall(far), (5, 4 - FAR, 9 - FAR))
        self.assertEqual(loud_places(far), [-FAR, 4 - FAR, 9 - FAR])


if __name__ == "__main__":
    unittest.main()
