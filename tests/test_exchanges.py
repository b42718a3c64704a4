import math
import random
import unittest

import plain
import plainways
from oddcrowds.exchanges import are_alike, can_exchange, exchange_path
from oddcrowds.falltables import fall_table
from oddcrowds.scripts import walked
from oddcrowds.standings import Standing
from plain import S
from test_histories import SIX
from test_parting import T
from values import anything


def followed(people, history, path):
    """The history that comes of one by exchanges with these numbers, None if one of them cannot be made."""
    for number in path:
        found = [other for k, other in plainways.exchanged(people, history) if k == number]
        if not found:
            return None
        history = found[0]
    return history


class CanExchangeTest(unittest.TestCase):
    def check(self, people, name, second, told):
        with self.subTest(people=people, name=name, second=second):
            self.assertIs(can_exchange(Standing(people), name, second), told)
            self.assertIs(can_exchange(Standing(people), second, name), told)

    def test_example(self):
        for name, second in [("ann", "cid"), ("ann", "dan"), ("cid", "dan")]:
            self.check(S, name, second, True)
        self.check(S, "ann", "bob", False)
        self.check(S, "ann", "ann", False)

    def test_one_step_apart(self):
        people = [("a", 0, 1), ("b", 1, 1), ("c", 3, 1), ("d", 4, 0)]
        self.check(people, "a", "b", False)
        self.check(people, "b", "c", True)
        self.check(people, "a", "c", True)
        self.check(people, "c", "d", False)
        self.check(T, "ann", "bob", False)
        self.check(T, "ann", "cid", True)

    def test_a_person_who_is_no_caller(self):
        people = [("a", 0, 0), ("b", 0, 1), ("c", 5, 1), ("d", 5, 0)]
        self.check(people, "a", "c", True)
        self.check(people, "b", "c", False)
        self.check(people, "a", "d", False)
        self.check([("a", 5, 1)], "a", "a", False)

    def test_all_pairs_against_calling_in_both_sequences(self):
        lot = random.Random(1)
        for _ in range(200):
            people = plainways.lively_people(lot, 6, 6)
            for name, _, _ in people:
                for second, _, _ in people:
                    self.check(people, name, second, plainways.exchangeable(people, name, second))

    def test_values_of_all_kinds(self):
        for value in anything() + ["eve", ["ann"], ("ann",)]:
            for name in ["ann", "bob", "eve", value]:
                if value != "ann":
                    self.check(S, value, name, False)
        self.check([], "ann", "bob", False)


class AlikeTest(unittest.TestCase):
    def check(self, people, first, second, told):
        one = Standing(people)
        with self.subTest(people=people, first=first, second=second):
            self.assertIs(are_alike(one, first, second), told)
            path = exchange_path(one, first, second)
            if not told:
                self.assertIsNone(path)
                return
            self.assertIs(type(path), list)
            self.assertTrue(all(type(number) is int for number in path))
            self.assertLessEqual(len(path), 40000)
            self.assertEqual(followed(people, first, path), second)
            self.assertEqual(exchange_path(one, first, second), path)
            if first == second:
                self.assertEqual(path, [])

    def test_example(self):
        for first in SIX:
            for second in SIX:
                self.check(S, first, second, True)
            self.check(S, first, ("cid", "bob"), False)
            self.check(S, ("cid", "bob"), first, False)
        self.check(S, ("cid", "bob"), ("cid", "bob"), True)

    def test_no_calls(self):
        for people in [[], S, [("a", 5, 1)]]:
            self.check(people, (), (), True)
        self.check(S, (), ("ann",), False)

    def test_histories_that_lead_elsewhere(self):
        self.check(S, ("ann",), ("cid",), False)
        self.check(S, ("ann", "cid"), ("ann", "dan"), False)
        self.check(S, ("ann", "cid"), ("ann", "cid", "dan"), False)
        self.check(S, ("ann", "ann"), ("ann",), False)

    def test_against_exchanging_again_and_again(self):
        lot = random.Random(2)
        for _ in range(100):
            people = plainways.lively_people(lot, 6, 6)
            told = plainways.histories_from(people, plain.callers)
            for row in lot.sample(sorted(told), min(len(told), 4)):
                histories = told[row] if len(told[row]) < 150 else []
                for first in histories[:3]:
                    alike = plainways.all_exchanged(people, first)
                    for second in lot.sample(histories, min(len(histories), 12)):
                        self.check(people, first, second, second in alike)
            first, second = (lot.choice(told[lot.choice(sorted(told))]) for _ in range(2))
            self.check(people, first, second, second in plainways.all_exchanged(people, first)
                       if len(first) == len(second) and len(first) < 8 else first == second)

    def test_names_of_callers_that_change(self):
        # Behind the call of c its crowd has another caller.
        people = [("b", 0, 0), ("c", 1, 1), ("a", 9, 1), ("d", 15, 1)]
        for first in [("c", "b", "d"), ("c", "d", "b"), ("d", "c", "b")]:
            for second in [("c", "b", "d"), ("c", "d", "b"), ("d", "c", "b")]:
                self.check(people, first, second, True)

    def test_two_hundred_names(self):
        people = [("a", 0, 1), ("b", 10 ** 30, 1)]
        first, second = ("a",) * 100 + ("b",) * 100, ("b",) * 100 + ("a",) * 100
        self.check_long(people, first, second)
        self.check_long(people, second, first)
        self.check_long(people, ("a", "b") * 100, ("b", "a") * 100)
        self.assertEqual(len(exchange_path(Standing(people), first, second)), 10000)

    def test_forty_people_and_two_hundred_names(self):
        people = [("p" + str(k), k * 10 ** 28, 1) for k in range(40)]
        lot = random.Random(3)
        first = [name for name, _, _ in people for _ in range(5)]
        second = list(first)
        lot.shuffle(second)
        self.check_long(people, tuple(first), tuple(second))
        self.check_long(people, tuple(first), tuple(first[::-1]))

    def check_long(self, people, first, second):
        """Check a path between names of crowds that stay apart from each other."""
        one = Standing(people)
        self.assertIs(are_alike(one, first, second), True)
        path = exchange_path(one, first, second)
        self.assertLessEqual(len(path), 40000)
        now = list(first)
        for number in path:
            self.assertNotEqual(now[number], now[number + 1])
            now[number], now[number + 1] = now[number + 1], now[number]
        self.assertEqual(tuple(now), second)

    def test_rows_within_rows_and_many_names(self):
        lot = random.Random(4)
        people = [("p" + str(k), 7 * k, 1 if k != 4 else 0) for k in range(9)]
        for _ in range(5):
            now, history = people, []
            while plain.callers(now) and len(history) < 60:
                history.append(lot.choice(plain.callers(now)))
                now = plain.called(now, history[-1])
            other = tuple(history)
            for _ in range(200):
                other = lot.choice(plainways.exchanged(people, other))[1]
            self.check(people, tuple(history), other, True)
            self.assertEqual(fall_table(Standing(people), other), fall_table(Standing(people), tuple(history)))

    def test_nothing_is_shared(self):
        one = Standing(S)
        exchange_path(one, SIX[0], SIX[-1]).clear()
        self.assertNotEqual(exchange_path(one, SIX[0], SIX[-1]), [])
        self.assertEqual(walked(one, [(name, 1) for name in SIX[0]]), walked(one, [(name, 1) for name in SIX[-1]]))
        self.assertEqual(math.factorial(3), len(SIX))


if __name__ == "__main__":
    unittest.main()
