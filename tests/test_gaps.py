import random
import unittest

from oddcrowds.gaps import even_sum, gaps, odd_sum, with_widths
from oddcrowds.standings import Standing, shifted_standing

FAR = 10 ** 30
S = [("ann", 0, 1), ("bob", 3, 0), ("cid", 4, 1), ("dan", 9, 1)]


def plain_sums(standing):
    """The odd and the even sum, step by step."""
    sums = {1: 0, 0: 0}
    places = standing.places()
    for at in range(places[0], places[-1]) if places else []:
        sums[sum(voice for _, place, voice in standing.people() if place <= at) % 2] += 1
    return sums[1], sums[0]


class GapsTest(unittest.TestCase):
    def check(self, people, found):
        standing = Standing(people)
        with self.subTest(people=people):
            self.assertEqual(gaps(standing), found)
            self.assertEqual(odd_sum(standing), sum(width for _, width, kind in found if kind == "odd"))
            self.assertEqual(even_sum(standing), sum(width for _, width, kind in found if kind == "even"))

    def test_example(self):
        self.check(S, [(0, 3, "odd"), (3, 1, "odd"), (4, 5, "even")])
        self.assertEqual(odd_sum(Standing(S)), 4)
        self.assertEqual(even_sum(Standing(S)), 5)

    def test_nobody_and_together(self):
        for people in [[], [("a", 5, 1)], [("a", -FAR, 0)], [("a", 5, 1), ("b", 5, 0), ("c", 5, 1)]]:
            self.check(people, [])
            self.assertEqual((odd_sum(Standing(people)), even_sum(Standing(people))), (0, 0))

    def test_people_in_another_order(self):
        self.check(S[::-1], [(0, 3, "odd"), (3, 1, "odd"), (4, 5, "even")])
        self.check([S[2], S[0], S[3], S[1]], [(0, 3, "odd"), (3, 1, "odd"), (4, 5, "even")])
        self.check([("a", 1, 0), ("b", -2, 1)], [(-2, 3, "odd")])

    def test_kinds(self):
        self.check([("a", 0, 0), ("b", 1, 0)], [(0, 1, "even")])
        self.check([("a", 0, 1), ("b", 1, 0)], [(0, 1, "odd")])
        self.check([("a", 0, 0), ("b", 1, 1)], [(0, 1, "even")])
        self.check([("a", 0, 1), ("b", 0, 1), ("c", 2, 1)], [(0, 2, "even")])
        self.check([("a", 0, 1), ("b", 0, 1), ("c", 0, 1), ("d", 2, 0)], [(0, 2, "odd")])
        self.check([("a", 0, 1), ("b", 1, 1), ("c", 3, 1), ("d", 6, 0), ("e", 7, 1)],
                   [(0, 1, "odd"), (1, 2, "even"), (3, 3, "odd"), (6, 1, "odd")])

    def test_wide_gaps(self):
        self.check([("a", -FAR, 1), ("b", 0, 1), ("c", FAR, 0)], [(-FAR, FAR, "odd"), (0, FAR, "even")])
        self.check([("a", FAR, 0), ("b", -FAR, 0)], [(-FAR, 2 * FAR, "even")])
        self.assertEqual(odd_sum(Standing([("a", FAR, 0), ("b", -FAR, 1)])), 2 * FAR)

    def test_forty_people(self):
        people = [("p" + str(k), 3 * k, k % 2) for k in range(40)]
        kinds = ["even", "odd", "odd", "even"] * 10
        self.check(people, [(3 * k, 3, kinds[k]) for k in range(39)])
        self.assertEqual((odd_sum(Standing(people)), even_sum(Standing(people))), (60, 57))

    def test_the_sums_step_by_step(self):
        lot = random.Random(7)
        for _ in range(300):
            people = [("p" + str(k), lot.randrange(-9, 9), lot.randrange(2)) for k in range(lot.randrange(8))]
            standing = Standing(people)
            with self.subTest(people=people):
                self.assertEqual((odd_sum(standing), even_sum(standing)), plain_sums(standing))
                self.assertEqual([left for left, _, _ in gaps(standing)], standing.places()[:-1])
                self.assertEqual([left + width for left, width, _ in gaps(standing)], standing.places()[1:])

    def test_shifted(self):
        self.assertEqual(gaps(shifted_standing(Standing(S), -FAR)),
                         [(-FAR, 3, "odd"), (3 - FAR, 1, "odd"), (4 - FAR, 5, "even")])

    def test_nothing_is_shared(self):
        standing = Standing(S)
        first = gaps(standing)
        first.clear()
        self.assertEqual(gaps(standing), [(0, 3, "odd"), (3, 1, "odd"), (4, 5, "even")])
        self.assertEqual(standing, Standing(S))


class WithWidthsTest(unittest.TestCase):
    def check(self, people, moved, widths, places):
        found = with_widths(Standing(people), moved, widths)
        self.assertEqual(found, Standing([(name, at, voice) for (name, _, voice), at in zip(people, places)]))

    def test_ordinary(self):
        self.check(S, 0, [3, 1, 5], [0, 3, 4, 9])
        self.check(S, 2, [2, 0, 3], [2, 4, 4, 7])
        self.check(S[::-1], 5, [0, 0, 0], [5, 5, 5, 5])

    def test_nobody_and_one_place(self):
        self.check([], 7, [], [])
        self.check([("a", 5, 1), ("b", 5, 0)], -7, [], [-2, -2])


if __name__ == "__main__":
    unittest.main()
