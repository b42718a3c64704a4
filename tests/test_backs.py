import itertools
import random
import unittest

import plain
from oddcrowds.backs import back_standings, comes_from, count_back
from oddcrowds.calls import called, callers
from oddcrowds.errors import TooGreat, UnlikePeople
from oddcrowds.standings import Standing, are_like, shifted_standing
from plain import S

FAR = 10 ** 30
T = [("ann", 0, 1), ("bob", 0, 0), ("cid", 3, 1)]


def places_of(standing):
    return tuple(place for _, place, _ in standing.people())


def crowd(letter, place, loud, silent):
    """People at one place, so many with a voice and so many without."""
    return [(letter + str(k), place, 1 if k < loud else 0) for k in range(loud + silent)]


def plain_backs(people):
    """The places in all standings behind one call of which these people stand so: each moves by one at most."""
    found = []
    for steps in itertools.product((-1, 0, 1), repeat=len(people)):
        ahead = [(name, place + step, voice) for (name, place, voice), step in zip(people, steps)]
        if any(plain.called(ahead, name) == people for name in plain.callers(ahead)):
            found.append(tuple(place for _, place, _ in ahead))
    return sorted(found)


class CountBackTest(unittest.TestCase):
    def check(self, people, many):
        with self.subTest(people=people):
            self.assertEqual(count_back(Standing(people)), many)

    def test_example(self):
        self.check(T, 4)

    def test_nobody_and_one_person(self):
        self.check([], 0)
        self.check([("a", 5, 1)], 0)
        self.check([("a", 5, 0)], 0)

    def test_together(self):
        # With an odd number of voices all people together cannot be those who stay.
        self.check(crowd("a", 7, 1, 1), 2)
        self.check(crowd("a", 7, 2, 0), 4)
        self.check(crowd("a", 7, 3, 0), 12)
        self.check(crowd("a", 7, 2, 1), 12)
        self.check(crowd("a", 7, 0, 12), 0)

    def test_an_odd_number_of_voices_that_is_not_together(self):
        self.check([("a", 0, 1), ("b", 1, 0)], 1)
        self.check(crowd("a", 0, 3, 0) + crowd("b", 9, 0, 2), 13)

    def test_great_numbers(self):
        self.check(crowd("a", 0, 12, 0), (3 ** 12 - 1) // 2)
        self.check(crowd("a", 0, 11, 0), (3 ** 11 - 1) // 2 - 1)
        self.check(crowd("a", 0, 20, 0) + crowd("b", FAR, 3, 17), (3 ** 20 - 1) // 2 + 13 * 3 ** 17)
        self.check(crowd("a", 0, 40, 0), (3 ** 40 - 1) // 2)
        self.check(crowd("a", 0, 1, 39), 3 ** 39 - 1)

    def test_like_the_plain_way(self):
        lot = random.Random(1)
        for _ in range(60):
            people = plain.random_people(lot, 6, 4)
            self.check(people, len(plain_backs(people)))


class BackStandingsTest(unittest.TestCase):
    def check(self, people):
        standing = Standing(people)
        with self.subTest(people=people):
            found = back_standings(standing)
            self.assertEqual([places_of(one) for one in found], plain_backs(people))
            self.assertTrue(all(are_like(one, standing) for one in found))
            self.assertTrue(all(comes_from(standing, one) for one in found))
            self.assertEqual(len(found), count_back(standing))
            self.assertEqual(standing, Standing(people))

    def test_example(self):
        found = back_standings(Standing(T))
        self.assertEqual([places_of(one) for one in found], [(-1, -1, 3), (0, -1, 4), (0, 0, 4), (0, 1, 4)])
        self.assertTrue(all(are_like(one, Standing(T)) for one in found))
        self.check(T)

    def test_people_in_another_order(self):
        self.check(T[::-1])
        self.check([T[1], T[2], T[0]])
        self.check(S)
        self.check([S[3], S[0], S[2], S[1]])

    def test_nobody_and_one_place(self):
        self.check([])
        self.check([("a", 5, 1)])
        self.check(crowd("a", 7, 1, 2))
        self.check(crowd("a", 7, 2, 1))
        self.check(crowd("a", 7, 3, 0))
        self.check(crowd("a", 7, 0, 4))

    def test_crowds_that_stay_quiet_may_be_told_too(self):
        self.check(crowd("a", 0, 2, 0) + crowd("b", 1, 2, 1))

    def test_like_the_plain_way(self):
        lot = random.Random(2)
        for _ in range(60):
            self.check(plain.random_people(lot, 6, 4))

    def test_far_away(self):
        far = back_standings(shifted_standing(Standing(T), FAR))
        self.assertEqual([places_of(one) for one in far],
                         [(FAR - 1, FAR - 1, FAR + 3), (FAR, FAR - 1, FAR + 4), (FAR, FAR, FAR + 4),
                          (FAR, FAR + 1, FAR + 4)])

    def test_five_hundred_are_told(self):
        people = crowd("a", 0, 6, 0) + crowd("b", 4, 5, 0) + crowd("c", 9, 3, 0) + crowd("d", 5, 1, 0)
        people = people + crowd("e", -2, 1, 0)
        standing = Standing(people)
        self.assertEqual(count_back(standing), 500)
        found = back_standings(standing)
        order = [places_of(one) for one in found]
        self.assertEqual(len(found), 500)
        self.assertEqual(order, sorted(set(order)))
        self.assertTrue(all(comes_from(standing, one) for one in found))
        with self.assertRaises(TooGreat):
            back_standings(Standing(people + crowd("f", 30, 1, 0)))

    def test_many_more_are_too_many(self):
        for people in [crowd("a", 0, 12, 0), crowd("a", 0, 1, 11), crowd("a", 0, 7, 0),
                       crowd("a", 0, 12, 0) + crowd("b", 5, 6, 6) + crowd("c", 9, 1, 11)]:
            with self.assertRaises(TooGreat):
                back_standings(Standing(people))

    def test_great_crowds_without_a_voice(self):
        people = crowd("a", 0, 0, 12) + crowd("b", 5, 0, 12) + crowd("c", 9, 0, 12) + [("x", 3, 1)]
        found = back_standings(Standing(people))
        self.assertEqual([places_of(one) for one in found], [(-1,) * 12 + (6,) * 12 + (10,) * 12 + (3,)])
        self.assertEqual(back_standings(Standing(people[:-1])), [])

    def test_nothing_is_shared(self):
        standing = Standing(T)
        back_standings(standing).clear()
        self.assertEqual(len(back_standings(standing)), 4)


class ComesFromTest(unittest.TestCase):
    def test_behind_each_call(self):
        standing = Standing(S)
        for name in callers(standing):
            self.assertIs(comes_from(called(standing, name), standing), True)
            self.assertIs(comes_from(standing, called(standing, name)), False)

    def test_never_from_itself(self):
        for people in [[], [("a", 5, 1)], S, T, crowd("a", 3, 3, 0)]:
            self.assertIs(comes_from(Standing(people), Standing(people)), False)

    def test_not_by_two_calls(self):
        standing = Standing(S)
        self.assertFalse(comes_from(called(called(standing, "cid"), "cid"), standing))

    def test_not_by_the_call_of_a_crowd_that_cannot_call(self):
        other = Standing([("a", 0, 0), ("b", 3, 1)])
        self.assertIs(comes_from(Standing([("a", 0, 0), ("b", 2, 1)]), other), False)
        self.assertIs(comes_from(Standing([("a", 1, 0), ("b", 3, 1)]), other), True)

    def test_far_from_each_other(self):
        self.assertIs(comes_from(Standing(T), shifted_standing(Standing(T), FAR)), False)

    def test_unlike_people(self):
        for other in [[], T[:2], T[::-1], T + [("eve", 5, 0)], [("ann", 0, 0)] + T[1:], [("eve", 0, 1)] + T[1:]]:
            with self.subTest(other=other):
                with self.assertRaises(UnlikePeople):
                    comes_from(Standing(T), Standing(other))
                with self.assertRaises(UnlikePeople):
                    comes_from(Standing(other), Standing(T))

    def test_like_the_plain_way(self):
        lot = random.Random(3)
        for _ in range(40):
            people = plain.random_people(lot, 4, 3)
            told = plain_backs(people)
            for steps in itertools.product((-2, -1, 0, 1, 2), repeat=len(people)):
                moved = [(name, place + step, voice) for (name, place, voice), step in zip(people, steps)]
                self.assertEqual(comes_from(Standing(people), Standing(moved)),
                                 tuple(place for _, place, _ in moved) in told)


if __name__ == "__main__":
    unittest.main()
