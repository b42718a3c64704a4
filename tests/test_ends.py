import random
import unittest

import plain
from oddcrowds.calls import called, callers
from oddcrowds.ends import all_ends, count_ends, is_settled
from oddcrowds.errors import OddVoices, TooGreat
from oddcrowds.parting import is_end
from oddcrowds.standings import Standing, are_like, shifted_standing
from test_parting import ODD, T, at, even_people

FAR = 10 ** 30

# Standings with just so many ends.
FIVE_HUNDRED = [("p" + str(k), place, voice) for k, (place, voice) in
                enumerate(zip([0, 2, 6, 15, 25, 35, 45, 54], [1, 0, 1, 1, 1, 0, 1, 1]))]
ONE_MORE = [("p" + str(k), place, voice) for k, (place, voice) in
            enumerate(zip([0, 9, 20, 26, 37, 40, 46], [1, 1, 1, 1, 1, 0, 1]))]

# The gaps of this one add up to 60.
VERY_MANY = [("p" + str(k), place, voice) for k, (place, voice) in
             enumerate(zip([0, 1, 4, 6, 10, 11, 13, 14, 16, 19, 20, 21, 21, 23, 25, 30, 32, 35, 37, 40, 42, 45, 45, 46,
                            46, 47, 49, 49, 51, 52, 56, 58, 60, 60, 60],
                           [1, 1, 1, 1, 1, 1, 0, 1, 1, 1, 1, 1, 1, 1, 1, 1, 0, 1, 0, 1, 1, 0, 1, 1, 0, 0, 0, 1, 1, 0,
                            1, 0, 0, 1, 0]))]


def ends_by_choices(people):
    """The keys of all ends of people in order, found by trying all numbers of steps as S5.3 tells them."""
    gaps = plain.gaps(people)
    heights = plain.heights(people)
    evens = [(heights[left], width) for left, width, kind in gaps if kind == "even"]
    last = plain.sum_of(people, "odd") - plain.sum_of(people, "even")
    found = []

    def go_on(level, height, kept):
        if len(kept) == len(evens):
            found.extend([(level, kept)] if height <= last else [])
            return
        high, width = evens[len(kept)]
        for steps in range(width + 1):
            if steps == 0 or high - width + steps <= height <= high:
                go_on(level, height - steps, kept + (steps,))

    for level in range(max(heights.values(), default=0) + 1):
        go_on(level, level, ())
    return found


class CountTest(unittest.TestCase):
    def check(self, people, many):
        with self.subTest(people=people):
            self.assertEqual(count_ends(Standing(people)), many)
            self.assertIs(is_settled(Standing(people)), many == 1)

    def test_examples(self):
        self.check(T, 3)
        self.check(T[::-1], 3)
        self.check([("a", 0, 1), ("b", 1, 1)], 2)
        self.check([("a", 0, 1), ("b", 60, 1)], 61)

    def test_nobody_and_quiet_ones(self):
        self.check([], 1)
        self.check([("a", 5, 0)], 1)
        self.check([("a", 5, 0), ("b", 65, 0)], 1)
        self.check([("a", 5, 1), ("b", 5, 1), ("c", 9, 0)], 1)

    def test_one_voice_at_0_and_all_others_at_1(self):
        for many in range(1, 40, 2):
            people = [("p0", 0, 1)] + [("p" + str(k), 1, 1) for k in range(1, many + 1)]
            self.check(people, 2)
            self.assertEqual([end.places() for end in all_ends(Standing(people))], [[1], [0]])

    def test_like_call_by_call(self):
        lot = random.Random(1)
        for _ in range(200):
            people = even_people(lot, 7, 10)
            self.check(people, len(plain.ends_of(people, plain.numbers_from(people))))

    def test_settled_exactly_if_quiet(self):
        lot = random.Random(2)
        for _ in range(200):
            standing = Standing(even_people(lot, 12, 40))
            self.assertIs(is_settled(standing), callers(standing) == [])

    def test_like_all_choices(self):
        self.check(FIVE_HUNDRED, 500)
        self.check(ONE_MORE, 501)
        for people in [FIVE_HUNDRED, ONE_MORE]:
            self.assertEqual(len(ends_by_choices(people)), count_ends(Standing(people)))

    def test_very_many(self):
        self.assertEqual(plain.width_of(VERY_MANY), 60)
        self.check(VERY_MANY, 72576)
        self.assertEqual(len(ends_by_choices(VERY_MANY)), 72576)

    def test_far_away(self):
        for by in [FAR, -FAR]:
            self.assertEqual(count_ends(shifted_standing(Standing(T), by)), 3)
            self.assertEqual(all_ends(shifted_standing(Standing(T), by)),
                             [shifted_standing(end, by) for end in all_ends(Standing(T))])

    def test_somewhat_beyond_the_limit(self):
        self.check([("a", 0, 1), ("b", 75, 1)], 76)

    def test_odd_voices(self):
        for people in ODD:
            for function in [count_ends, is_settled, all_ends]:
                with self.subTest(people=people, function=function.__name__):
                    with self.assertRaises(OddVoices):
                        function(Standing(people))


class AllEndsTest(unittest.TestCase):
    def check(self, people, ends):
        standing = Standing(people)
        with self.subTest(people=people):
            found = all_ends(standing)
            self.assertIs(type(found), list)
            self.assertEqual([end.people() for end in found], ends)
            self.assertTrue(all(is_end(standing, end) and are_like(standing, end) for end in found))
            self.assertEqual(standing, Standing(people))

    def test_example(self):
        self.assertEqual(all_ends(Standing(T)), [at(T, (2, 2, 2, 2)), at(T, (1, 1, 1, 1)), at(T, (1, 1, 2, 2))])
        self.assertEqual(all_ends(Standing(T[::-1])),
                         [at(T[::-1], (2, 2, 2, 2)), at(T[::-1], (1, 1, 1, 1)), at(T[::-1], (2, 2, 1, 1))])
        self.assertEqual(all_ends(called(Standing(T), "bob")), [at(T, (2, 2, 2, 2)), at(T, (1, 1, 1, 1))])

    def test_nobody_and_quiet_ones(self):
        for people in [[], [("a", 5, 0)], [("a", 5, 0), ("b", 9, 0)], [("a", 5, 1), ("b", 5, 1), ("c", 9, 0)]]:
            self.check(people, [people])

    def test_like_call_by_call(self):
        lot = random.Random(3)
        for _ in range(200):
            people = even_people(lot, 7, 10)
            self.check(people, plain.ends_of(people, plain.numbers_from(people)))

    def test_many_even_gaps(self):
        lot = random.Random(4)
        for _ in range(4):
            people = [("p" + str(k), k, 1 if k % 3 else 2 - lot.randrange(1, 3)) for k in range(10)]
            people = plain.with_voices(people, 0)
            self.check(people, plain.ends_of(people, plain.numbers_from(people)))

    def test_five_hundred_are_told(self):
        standing = Standing(FIVE_HUNDRED)
        found = all_ends(standing)
        self.assertEqual(len(found), 500)
        keys = [plain.end_key(FIVE_HUNDRED, end.people()) for end in found]
        self.assertEqual(keys, ends_by_choices(FIVE_HUNDRED))
        self.assertEqual(keys, sorted(set(keys)))
        self.assertTrue(all(is_end(standing, end) for end in found))

    def test_five_hundred_and_one_are_too_many(self):
        for people in [ONE_MORE, VERY_MANY]:
            with self.assertRaises(TooGreat):
                all_ends(Standing(people))

    def test_nothing_is_shared(self):
        standing = Standing(T)
        all_ends(standing).clear()
        self.assertEqual(len(all_ends(standing)), 3)


if __name__ == "__main__":
    unittest.main()
