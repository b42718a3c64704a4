import random
import unittest

import plain
from oddcrowds.gaps import even_sum, odd_sum
from oddcrowds.standings import Standing
from oddcrowds.sums import turn_sum, voice_places
from plain import S

FAR = 10 ** 30


class SumsTest(unittest.TestCase):
    def check(self, people, places, total):
        for order in [people, people[::-1]]:
            with self.subTest(people=order):
                self.assertEqual(voice_places(Standing(order)), places)
                self.assertEqual(turn_sum(Standing(order)), total)

    def test_example(self):
        self.check(S, [0, 4, 9], 5)

    def test_no_voices(self):
        self.check([], [], 0)
        self.check([("a", 7, 0)], [], 0)
        self.check([("a", 7, 0), ("b", -FAR, 0)], [], 0)

    def test_two_voices_at_one_place(self):
        self.check([("a", 4, 1), ("b", 4, 1)], [4, 4], 0)
        self.check([("a", 4, 1), ("b", 4, 0), ("c", 4, 1), ("d", 4, 1)], [4, 4, 4], 4)
        self.check(S + [("x", 3, 1), ("y", 3, 1)], [0, 3, 3, 4, 9], 5)
        self.check(S + [("x", -8, 1), ("y", -8, 1)], [-8, -8, 0, 4, 9], 5)
        self.check(S + [("x", 4, 1), ("y", 4, 1)], [0, 4, 4, 4, 9], 5)

    def test_one_and_two_voices(self):
        self.check([("a", -7, 1)], [-7], -7)
        self.check([("a", -7, 1), ("b", -5, 1)], [-7, -5], -2)
        self.check([("a", 5, 1), ("b", 7, 1), ("c", 8, 0)], [5, 7], -2)

    def test_far_away(self):
        self.check([("a", -FAR, 1), ("b", FAR, 1)], [-FAR, FAR], -2 * FAR)
        self.check([("a", -FAR, 1), ("b", 0, 1), ("c", FAR, 1)], [-FAR, 0, FAR], 0)

    def test_people_without_a_voice_change_nothing(self):
        self.check(S + [("x", -100, 0), ("y", 4, 0), ("z", 100, 0)], [0, 4, 9], 5)

    def test_it_is_told_by_the_gaps(self):
        lot = random.Random(6)
        for wide in [3, 12, FAR]:
            for _ in range(200):
                standing = Standing(plain.random_people(lot, 9, wide))
                with self.subTest(people=standing.people()):
                    if standing.voices() % 2 == 1:
                        self.assertEqual(turn_sum(standing), standing.places()[0] + even_sum(standing))
                    else:
                        self.assertEqual(turn_sum(standing), -odd_sum(standing))

    def test_nothing_is_shared(self):
        standing = Standing(S)
        voice_places(standing).reverse()
        self.assertEqual(voice_places(standing), [0, 4, 9])
        self.assertEqual(standing, Standing(S))


if __name__ == "__main__":
    unittest.main()
