import random
import unittest

import plain
from oddcrowds.endcounts import counts_by_place, counts_by_width
from oddcrowds.ends import all_ends, count_ends
from oddcrowds.errors import OddVoices
from oddcrowds.parting import widths
from oddcrowds.standings import Standing
from test_ends import FIVE_HUNDRED, VERY_MANY, ends_by_choices
from test_parting import ODD, T, even_people

FAR = 10 ** 30


def pairs(found):
    return [(one, found.count(one)) for one in sorted(set(found))]


class EndCountsTest(unittest.TestCase):
    def check(self, people, by_width, by_place):
        standing = Standing(people)
        with self.subTest(people=people):
            for function, told in [(counts_by_width, by_width), (counts_by_place, by_place)]:
                found = function(standing)
                self.assertEqual(found, told)
                self.assertIs(type(found), list)
                self.assertEqual({type(row) for row in found}, {tuple} if told else set())
            self.assertEqual(sum(many for _, many in by_width), count_ends(standing))
            self.assertEqual([width for width, _ in by_width],
                             list(range(widths(standing)[0], widths(standing)[1] + 1)))
            self.assertEqual(standing, Standing(people))

    def check_ends(self, people, ends):
        places = pairs([plain.first_place(end) for end in ends]) if people else []
        self.check(people, pairs([plain.width_of(end) for end in ends]), places)

    def test_example(self):
        self.check(T, [(0, 2), (1, 1)], [(1, 2), (2, 1)])
        self.check(T[::-1], [(0, 2), (1, 1)], [(1, 2), (2, 1)])

    def test_nobody(self):
        self.check([], [(0, 1)], [])

    def test_quiet_ones(self):
        self.check([("a", 5, 0)], [(0, 1)], [(5, 1)])
        self.check([("a", 5, 0), ("b", 65, 0)], [(60, 1)], [(5, 1)])
        self.check([("a", -5, 1), ("b", -5, 1), ("c", 9, 0)], [(14, 1)], [(-5, 1)])

    def test_two_people(self):
        self.check([("a", 0, 1), ("b", 60, 1)], [(0, 61)], [(place, 1) for place in range(61)])

    def test_like_all_ends(self):
        lot = random.Random(1)
        for _ in range(150):
            people = even_people(lot, 7, 10)
            self.check_ends(people, plain.ends_of(people, plain.numbers_from(people)))

    def test_five_hundred(self):
        self.check_ends(FIVE_HUNDRED, [end.people() for end in all_ends(Standing(FIVE_HUNDRED))])

    def test_very_many(self):
        keys = ends_by_choices(VERY_MANY)
        first = plain.first_place(VERY_MANY) + plain.sum_of(VERY_MANY, "odd")
        self.check(VERY_MANY, pairs([sum(kept) for _, kept in keys]), pairs([first - level for level, _ in keys]))

    def test_far_away(self):
        for by in [FAR, -FAR]:
            self.check([(name, place + by, voice) for name, place, voice in T], [(0, 2), (1, 1)],
                       [(1 + by, 2), (2 + by, 1)])

    def test_nothing_is_shared(self):
        for function in [counts_by_width, counts_by_place]:
            function(Standing(T)).clear()
            self.assertEqual(len(function(Standing(T))), 2)

    def test_odd_voices(self):
        for people in ODD:
            for function in [counts_by_width, counts_by_place]:
                with self.assertRaises(OddVoices):
                    function(Standing(people))


if __name__ == "__main__":
    unittest.main()
