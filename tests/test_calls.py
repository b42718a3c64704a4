import random
import unittest

import plain
from oddcrowds.calls import called, callers, can_call, is_loud, is_quiet, times_of
from oddcrowds.errors import BadCall, UnknownName
from oddcrowds.gaps import gaps
from oddcrowds.scripts import first_bad, walked
from oddcrowds.standings import Standing, are_like
from plain import S
from values import anything

FAR = 10 ** 30
PAIR = [("ann", 0, 1), ("bob", 3, 0), ("cid", 4, 1), ("dan", 4, 1)]


def places(standing):
    return [place for _, place, _ in standing.people()]


class LoudTest(unittest.TestCase):
    def check(self, people, loud, able):
        standing = Standing(people)
        with self.subTest(people=people):
            names = standing.names()
            self.assertEqual([name for name in names if is_loud(standing, name)], loud)
            self.assertEqual([name for name in names if can_call(standing, name)], able)
            for name in names:
                self.assertIs(type(is_loud(standing, name)), bool)
                self.assertIs(type(can_call(standing, name)), bool)

    def test_ordinary(self):
        self.check(S, ["ann", "cid", "dan"], ["ann", "cid", "dan"])
        self.check(PAIR, ["ann"], ["ann"])

    def test_a_crowd_is_told_by_any_of_its_people(self):
        people = [("a", 2, 0), ("b", 2, 1), ("c", 5, 1), ("d", 2, 0), ("e", 5, 1)]
        self.check(people, ["a", "b", "d"], ["a", "b", "d"])
        self.check(people + [("f", 5, 1)], ["a", "b", "c", "d", "e", "f"], ["a", "b", "c", "d", "e", "f"])

    def test_one_crowd_alone(self):
        self.check([("a", 5, 1)], ["a"], [])
        self.check([("a", 5, 0)], [], [])
        self.check([("a", 5, 1), ("b", 5, 0)], ["a", "b"], [])
        self.check([("a", 5, 1), ("b", 5, 1)], [], [])

    def test_nobody_with_a_voice(self):
        self.check([("a", 5, 0), ("b", 6, 0)], [], [])

    def test_nobodys_names(self):
        for function in [is_loud, can_call, called, times_of]:
            for standing in [Standing([]), Standing([("x", 5, 1)]), Standing([("x", 5, 0), ("y", 6, 0)])]:
                for name in anything():
                    with self.subTest(function=function.__name__, name=name):
                        with self.assertRaises(UnknownName) as caught:
                            function(standing, name)
                        self.assertIs(caught.exception.name, name)

    def test_one_by_one(self):
        lot = random.Random(1)
        for _ in range(300):
            people = plain.random_people(lot, 8, 6)
            names = [name for name, _, _ in people]
            self.check(people, [name for name in names if plain.is_loud(people, name)],
                       [name for name in names if plain.can_call(people, name)])


class CalledTest(unittest.TestCase):
    def check(self, people, name, found):
        standing = Standing(people)
        with self.subTest(people=people, name=name):
            behind = called(standing, name)
            self.assertEqual(places(behind), found)
            self.assertTrue(are_like(standing, behind))
            self.assertEqual(standing, Standing(people))
            self.assertEqual(called(standing, name), behind)

    def test_ordinary(self):
        self.check(S, "ann", [0, 2, 3, 8])
        self.check(S, "cid", [1, 4, 4, 8])
        self.check(S, "dan", [1, 4, 5, 9])
        self.check(S[::-1], "cid", [8, 4, 4, 1])

    def test_a_crowd_is_told_by_any_of_its_people(self):
        people = [("a", -2, 0), ("b", 2, 0), ("c", 5, 1), ("d", 2, 1), ("e", 5, 1)]
        self.check(people, "b", [-1, 2, 4, 2, 4])
        self.check(people, "d", [-1, 2, 4, 2, 4])

    def test_far_away(self):
        self.check([("a", -FAR, 1), ("b", FAR, 0)], "a", [-FAR, FAR - 1])
        self.check([("a", -FAR, 0), ("b", FAR, 1)], "b", [1 - FAR, FAR])

    def test_crowds_that_cannot_call(self):
        for people, name in [(S, "bob"), (PAIR, "bob"), (PAIR, "cid"), (PAIR, "dan"), ([("a", 5, 1)], "a"),
                             ([("a", 5, 0)], "a"), ([("a", 5, 1), ("b", 5, 0)], "b"), ([("a", 5, 0), ("b", 6, 0)], "a")]:
            with self.subTest(people=people, name=name):
                with self.assertRaises(BadCall) as caught:
                    called(Standing(people), name)
                self.assertEqual(caught.exception.number, 0)
                self.assertIs(type(caught.exception.number), int)

    def test_one_by_one(self):
        lot = random.Random(2)
        for _ in range(300):
            people = plain.random_people(lot, 8, 6)
            for name, _, _ in people:
                if plain.can_call(people, name):
                    self.check(people, name, [place for _, place, _ in plain.called(people, name)])

    def test_what_a_call_takes_from_the_gaps(self):
        lot = random.Random(3)
        for _ in range(300):
            # No two places are next to each other, so all gaps are still there behind a call.
            people = [(name, 3 * place, voice) for name, place, voice in plain.random_people(lot, 7, 8)]
            standing = Standing(people)
            ahead = gaps(standing)
            for name in callers(standing):
                behind = gaps(called(standing, name))
                at = standing.places().index(standing.place(name))
                lost = [width - left for (_, width, _), (_, left, _) in zip(ahead, behind)]
                self.assertEqual(lost, [1 if k in (at - 1, at) else 0 for k in range(len(ahead))])
                self.assertEqual([kind for _, _, kind in ahead], [kind for _, _, kind in behind])


class CallersTest(unittest.TestCase):
    def check(self, people, found):
        standing = Standing(people)
        with self.subTest(people=people):
            self.assertEqual(callers(standing), found)
            self.assertIs(is_quiet(standing), found == [])

    def test_ordinary(self):
        self.check(S, ["ann", "cid", "dan"])
        self.check(PAIR, ["ann"])

    def test_from_left_to_right_whatever_the_order_of_the_people(self):
        self.check(S[::-1], ["ann", "cid", "dan"])
        self.check([S[3], S[0], S[2], S[1]], ["ann", "cid", "dan"])
        self.check([("a", FAR, 1), ("b", -FAR, 1), ("c", 0, 1)], ["b", "c", "a"])

    def test_the_first_of_the_crowd_with_a_voice_or_not(self):
        self.check([("b", 3, 0), ("a", 3, 1), ("c", 7, 0)], ["b"])
        self.check([("c", 7, 0), ("a", 3, 1), ("b", 3, 0)], ["a"])
        self.check([("x", 7, 0), ("d", 3, 0), ("a", 3, 1), ("c", 3, 1), ("b", 3, 1), ("e", 7, 1)], ["d", "x"])

    def test_quiet(self):
        self.check([], [])
        self.check([("a", 5, 1)], [])
        self.check([("a", 5, 0)], [])
        self.check([("a", 5, 1), ("b", 5, 0), ("c", 5, 1), ("d", 5, 1)], [])
        self.check([("a", 5, 0), ("b", 6, 0)], [])
        self.check([("a", 5, 1), ("b", 5, 1), ("c", 6, 0), ("d", 8, 1), ("e", 8, 1)], [])

    def test_one_by_one(self):
        lot = random.Random(4)
        for _ in range(300):
            people = plain.random_people(lot, 8, 6)
            self.check(people, plain.callers(people))

    def test_nothing_is_shared(self):
        standing = Standing(S)
        callers(standing).clear()
        self.assertEqual(callers(standing), ["ann", "cid", "dan"])
        self.assertEqual(standing, Standing(S))


class TimesOfTest(unittest.TestCase):
    def check(self, people, name, times):
        standing = Standing(people)
        with self.subTest(people=people, name=name):
            self.assertEqual(times_of(standing, name), times)
            self.assertIs(type(times_of(standing, name)), int)
            if times:
                self.assertIsNone(first_bad(standing, [(name, times)]))
            self.assertEqual(first_bad(standing, [(name, times + 1)]), 0)
            self.assertEqual(standing, Standing(people))

    def test_example(self):
        self.check(S, "cid", 4)
        self.check(S, "ann", 4)
        self.check(S, "dan", 5)
        self.check(S, "bob", 0)

    def test_a_crowd_that_grows(self):
        self.check([("a", 0, 1), ("b", 3, 0), ("c", 7, 0)], "a", 7)
        self.check([("a", 0, 1), ("b", 3, 1), ("c", 7, 0)], "a", 3)
        self.check([("a", 0, 1), ("b", 3, 0), ("c", 7, 1), ("d", 9, 0)], "a", 7)
        self.check([("a", 0, 0), ("b", 3, 1), ("c", 7, 0)], "b", 4)
        # Two voices come in at once from both sides.
        self.check([("a", 0, 1), ("b", 3, 1), ("c", 6, 1), ("d", 8, 0)], "b", 5)

    def test_told_by_any_of_the_crowd(self):
        people = [("a", 0, 1), ("b", 0, 0), ("c", 3, 0), ("d", 7, 1)]
        self.check(people, "a", 7)
        self.check(people, "b", 7)

    def test_crowds_that_cannot_call(self):
        self.check([("a", 0, 1)], "a", 0)
        self.check([("a", 0, 0), ("b", 5, 1)], "a", 0)
        self.check([("a", 0, 1), ("b", 0, 1), ("c", 5, 1)], "b", 0)

    def test_wide_gaps(self):
        self.check([("a", -FAR, 1), ("b", FAR, 1)], "a", 2 * FAR)
        self.check([("a", -FAR, 0), ("b", 0, 1), ("c", FAR - 1, 0), ("d", FAR, 1)], "b", FAR)
        self.check([("a", -FAR, 0), ("b", 0, 1), ("c", 7, 1), ("d", FAR, 1)], "b", 7)
        behind = walked(Standing([("a", -FAR, 1), ("b", FAR, 0)]), [("a", 2 * FAR - 1)])
        self.assertEqual(places(behind), [-FAR, 1 - FAR])

    def test_forty_people(self):
        people = [("p" + str(k), k * 10 ** 28, 1 if k == 20 else 0) for k in range(40)]
        self.check(people, "p20", 20 * 10 ** 28)

    def test_call_by_call(self):
        lot = random.Random(5)
        for _ in range(300):
            people = plain.random_people(lot, 7, 9)
            for name, _, _ in people:
                times = 0
                while plain.behind_row(people, name, times + 1) is not None:
                    times += 1
                self.check(people, name, times)


if __name__ == "__main__":
    unittest.main()
