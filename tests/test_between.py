import random
import unittest

import plain
from oddcrowds.between import all_between, is_between, nearest_of
from oddcrowds.errors import NoLead, TooGreat, UnlikePeople
from oddcrowds.leading import judge_lead, lead_bounds
from oddcrowds.scripts import walked
from oddcrowds.standings import Standing, are_like
from plain import S
from test_leading import E, unlike
from test_parting import T, all_near, at

FAR = 10 ** 30


def between(people, told, row):
    """All people between people and a row that they lead to, in order; told is what numbers_from tells."""
    found = [own for own in told if row in plain.numbers_from(list(own))]
    return sorted(found, key=lambda own: [place for _, place, _ in own])


def places_of(standing):
    return tuple(place for _, place, _ in standing.people())


class IsBetweenTest(unittest.TestCase):
    def check(self, people, third, other, told):
        with self.subTest(people=people, third=third, other=other):
            self.assertIs(is_between(Standing(people), at(people, third), at(people, other)), told)

    def test_example(self):
        goal = (2, 4, 4, 7)
        for third in [(0, 3, 4, 9), goal, (1, 4, 4, 8), (0, 2, 3, 8), (1, 4, 5, 9)]:
            self.check(S, third, goal, True)
        for third in [(0, 1, 2, 7), (2, 4, 4, 8), (2, 5, 6, 9), (0, 3, 4, 10), (5, 5, 5, 5), (3, 4, 4, 6)]:
            self.check(S, third, goal, False)

    def test_the_two_themselves(self):
        for people in [[], S, T, E, [("a", 5, 1)]]:
            places = [place for _, place, _ in people]
            self.check(people, places, places, True)
        self.check([("a", 5, 1)], (6,), (5,), False)

    def test_like_call_by_call(self):
        lot = random.Random(1)
        for _ in range(40):
            people = plain.random_people(lot, 5, 7)
            told = plain.numbers_from(people)
            row = lot.choice(sorted(told))
            found = between(people, told, row)
            goal = [place for _, place, _ in row]
            for own in sorted(told):
                self.check(people, [place for _, place, _ in own], goal, own in found)
                near = plain.near(lot, own)
                self.check(people, [place for _, place, _ in near], goal, tuple(near) in found)

    def test_all_near(self):
        lot = random.Random(2)
        for _ in range(15):
            people = plain.random_people(lot, 3, 5)
            told = plain.numbers_from(people)
            row = lot.choice(sorted(told))
            found = between(people, told, row)
            for third in all_near(people, 1) if people else []:
                self.assertIs(is_between(Standing(people), third, Standing(list(row))),
                              tuple(third.people()) in found)

    def test_sums_of_numbers(self):
        lot = random.Random(3)
        for _ in range(60):
            people = plain.random_people(lot, 6, 8)
            one, other = Standing(people), Standing(list(lot.choice(sorted(plain.numbers_from(people)))))
            least, most = lead_bounds(one, other)
            for third in all_between(one, other):
                ahead, behind = lead_bounds(one, third), lead_bounds(third, other)
                self.assertGreaterEqual(ahead[0] + behind[0], least)
                self.assertLessEqual(ahead[1] + behind[1], most)

    def test_great_gaps(self):
        people = [("a", -FAR, 1), ("b", 0, 1), ("c", FAR, 1)]
        self.check(people, (-1, 0, 1), (0, 0, 0), True)
        self.check(people, (-FAR, -FAR, 0), (0, 0, 0), True)
        self.check(people, (-FAR, -FAR, 1), (0, 0, 0), False)
        self.check(people, (-FAR, -1, FAR - 1), (-1, 0, 1), True)

    def test_errors(self):
        one, other = Standing(S), at(S, (2, 4, 4, 7))
        for rows in unlike(S):
            for values in [(one, Standing(rows), other), (one, other, Standing(rows)), (Standing(rows), one, other),
                           (one, Standing(rows), at(S, (0, 3, 4, 8))), (one, Standing(rows), Standing(rows))]:
                with self.assertRaises(UnlikePeople):
                    is_between(*values)
        for third in [one, other, at(S, (0, 3, 4, 8)), at(S, (1, 4, 4, 8))]:
            with self.assertRaises(NoLead) as caught:
                is_between(one, third, at(S, (0, 3, 4, 8)))
            self.assertIs(judge_lead(one, at(S, (0, 3, 4, 8)), caught.exception.paper), True)


class AllBetweenTest(unittest.TestCase):
    def check(self, people, row):
        one, other = Standing(people), Standing(list(row))
        with self.subTest(people=people, row=row):
            found = all_between(one, other)
            self.assertIs(type(found), list)
            told = between(people, plain.numbers_from(people), tuple(row))
            self.assertEqual([tuple(own.people()) for own in found], told)
            self.assertTrue(all(are_like(one, own) for own in found))
            self.assertTrue(all(is_between(one, own, other) for own in found))

    def test_example(self):
        found = all_between(Standing(S), at(S, (2, 4, 4, 7)))
        self.assertEqual([places_of(own) for own in found],
                         [(0, 2, 3, 8), (0, 3, 4, 9), (1, 3, 3, 7), (1, 3, 4, 8), (1, 4, 4, 8), (1, 4, 5, 9),
                          (2, 4, 4, 7), (2, 5, 5, 8)])
        self.check(S, at(S, (2, 4, 4, 7)).people())
        self.check(S[::-1], at(S[::-1], (7, 4, 4, 2)).people())
        self.check(S, at(S, (5, 5, 5, 5)).people())

    def test_small_ones(self):
        for people in [[], [("a", 5, 1)], [("a", 5, 0), ("b", 9, 0)], S, T]:
            self.assertEqual(all_between(Standing(people), Standing(people)), [Standing(people)])

    def test_like_call_by_call(self):
        lot = random.Random(4)
        for _ in range(60):
            people = plain.random_people(lot, 5, 8)
            for row in lot.sample(sorted(plain.numbers_from(people)), 1):
                self.check(people, row)

    def test_five_hundred_are_told(self):
        people = [("b", FAR, 1), ("a", -FAR, 1)]
        one = Standing(people)
        found = all_between(one, walked(one, [("a", 499)]))
        self.assertEqual([places_of(own) for own in found], [(FAR - k, -FAR) for k in range(499, -1, -1)])
        with self.assertRaises(TooGreat):
            all_between(one, walked(one, [("a", 500)]))

    def test_five_hundred_by_two(self):
        # The calls of the first person and of the last one may come in any sequence.
        people = [("a", 0, 1), ("b", 2000, 0), ("c", 4000, 1)]
        one = Standing(people)
        found = all_between(one, walked(one, [("a", 19), ("c", 24)]))
        self.assertEqual(len(found), 20 * 25)
        self.assertEqual([places_of(own) for own in found], sorted({places_of(own) for own in found}))
        with self.assertRaises(TooGreat):
            all_between(one, walked(one, [("a", 20), ("c", 24)]))

    def test_many_more_are_too_many(self):
        people = [("a", -FAR, 1), ("b", 0, 1), ("c", FAR, 1)]
        with self.assertRaises(TooGreat):
            all_between(Standing(people), at(people, (0, 0, 0)))
        people = [("p" + str(k), k * 10 ** 28, 1 - k % 2) for k in range(40)]
        one = Standing(people)
        with self.assertRaises(TooGreat):
            all_between(one, walked(one, [("p" + str(k), 9) for k in range(0, 40, 2)]))

    def test_forty_people_and_few_between(self):
        one = Standing([("p" + str(k), k * 10 ** 28, 1) for k in range(40)])
        self.assertEqual(len(all_between(one, walked(one, [("p20", 3), ("p30", 4)]))), 20)

    def test_errors(self):
        for rows in unlike(S):
            with self.assertRaises(UnlikePeople):
                all_between(Standing(S), Standing(rows))
        for people, places in [(S, (0, 3, 4, 8)), (S, (0, 4, 3, 9)), (E, (1, 2, 5)), (T, (3, 3, 3, 3))]:
            with self.assertRaises(NoLead) as caught:
                all_between(Standing(people), at(people, places))
            self.assertIs(judge_lead(Standing(people), at(people, places), caught.exception.paper), True)

    def test_nothing_is_shared(self):
        one, other = Standing(S), at(S, (2, 4, 4, 7))
        many = len(all_between(one, other))
        all_between(one, other).clear()
        self.assertEqual(len(all_between(one, other)), many)


class NearestTest(unittest.TestCase):
    def check(self, people, goals, told):
        one, standings = Standing(people), [at(people, places) for places in goals]
        with self.subTest(people=people, goals=goals):
            self.assertEqual(nearest_of(one, standings), told)
            self.assertEqual(nearest_of(one, tuple(standings)), told)
            self.assertIsNot(nearest_of(one, standings), False)

    def test_examples(self):
        self.check(S, [(5, 5, 5, 5), (2, 4, 4, 7), (0, 0, 0, 5)], 1)
        self.check(S, [(0, 3, 4, 8), (2, 4, 4, 7), (0, 0, 0, 5), (0, 3, 4, 9)], 3)
        self.check(S, [(0, 3, 4, 8), (4, 4, 4, 5), (0, 0, 0, 5), (9, 9, 9, 9)], 1)

    def test_equal_numbers(self):
        self.check(S, [(5, 5, 5, 5), (2, 4, 4, 7), (0, 1, 2, 7), (2, 4, 4, 7)], 1)
        self.check(S, [(0, 1, 2, 7), (2, 4, 4, 7)], 0)
        self.check(S, [(4, 4, 4, 5), (0, 0, 0, 5)], 0)
        self.check(S, [(0, 0, 0, 5), (4, 4, 4, 5)], 0)

    def test_none_that_is_led_to(self):
        self.check(S, [(0, 3, 4, 8)], None)
        self.check(S, [(0, 3, 4, 8), (0, 4, 3, 9), (4, 4, 4, 4)], None)

    def test_nobody(self):
        self.check([], [()], 0)
        self.check([], [(), ()], 0)

    def test_like_call_by_call(self):
        lot = random.Random(5)
        for _ in range(150):
            people = plain.random_people(lot, 6, 8)
            told = plain.numbers_from(people)
            rows = [list(lot.choice(sorted(told))) for _ in range(lot.randrange(1, 5))]
            rows = [plain.near(lot, row) if lot.randrange(2) else row for row in rows]
            numbers = [(min(told[tuple(row)]), k) for k, row in enumerate(rows) if tuple(row) in told]
            self.check(people, [[place for _, place, _ in row] for row in rows], min(numbers)[1] if numbers else None)

    def test_great_gaps(self):
        people = [("a", -FAR, 1), ("b", FAR, 1)]
        self.check(people, [(FAR, FAR), (-FAR, 0), (0, FAR), (-FAR, 1)], 3)

    def test_unlike_people_alone(self):
        one = Standing(S)
        for rows in unlike(S):
            for standings in [[Standing(rows)], [one, Standing(rows)], [Standing(rows), one],
                              [at(S, (0, 3, 4, 8)), one, Standing(rows)]]:
                with self.assertRaises(UnlikePeople):
                    nearest_of(one, standings)

    def test_the_list_stays_as_it_is(self):
        standings = [at(S, (5, 5, 5, 5)), at(S, (2, 4, 4, 7))]
        nearest_of(Standing(S), standings)
        self.assertEqual(standings, [at(S, (5, 5, 5, 5)), at(S, (2, 4, 4, 7))])


if __name__ == "__main__":
    unittest.main()
