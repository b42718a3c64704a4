import math
import random
import unittest

import plain
import plainways
from oddcrowds.errors import BadCall, TooGreat, UnlikePeople
from oddcrowds.histories import count_histories, is_history
from oddcrowds.historynumbers import drawn_history, history_at, history_number, next_history
from oddcrowds.standings import Standing
from plain import S
from test_histories import GOAL, great_pair
from test_leading import E, unlike
from test_parting import T, at
from values import anything


def bad_of(function, one, other, value):
    """The number of the BadCall that a function raises, or None."""
    try:
        function(one, other, value)
    except BadCall as error:
        return error.number
    return None


class NumbersTest(unittest.TestCase):
    def check(self, people, row, histories):
        """Check each history by its number; they are told in order."""
        one, other = Standing(people), Standing(list(row))
        many = len(histories)
        with self.subTest(people=people, row=row):
            for number, history in enumerate(histories):
                self.assertEqual(history_at(one, other, number), history)
                self.assertIs(type(history_at(one, other, number)), tuple)
                self.assertEqual(history_number(one, other, history), number)
                following = histories[number + 1] if number + 1 < many else None
                self.assertEqual(next_history(one, other, history), following)
                self.assertEqual(drawn_history(one, other, number), history)
                self.assertEqual(drawn_history(one, other, number + 7 * many), history)
            for number in [many, many + 1, 10 ** 60 - 1]:
                with self.assertRaises(TooGreat):
                    history_at(one, other, number)
            if not histories:
                self.assertIsNone(drawn_history(one, other, 0))
                self.assertIsNone(drawn_history(one, other, 10 ** 60 - 1))

    def test_example(self):
        histories = [("ann", "cid", "dan"), ("ann", "dan", "cid"), ("cid", "ann", "dan"), ("cid", "bob"),
                     ("cid", "dan", "ann"), ("dan", "ann", "cid"), ("dan", "cid", "ann")]
        self.check(S, at(S, GOAL).people(), histories)

    def test_to_itself(self):
        for people in [[], S, T, E, [("a", 5, 1)]]:
            self.check(people, people, [()])

    def test_where_there_are_none(self):
        for people, places in [(S, (0, 3, 4, 8)), (E, (1, 2, 5)), (T, (3, 3, 3, 3)), ([("a", 5, 1)], (6,))]:
            self.check(people, at(people, places).people(), [])

    def test_against_the_list_of_all(self):
        lot = random.Random(1)
        for _ in range(60):
            people = plainways.lively_people(lot, 5, 7)
            told = plainways.histories_from(people, plain.callers)
            for row in lot.sample(sorted(told), min(len(told), 6)):
                if len(told[row]) < 60:
                    self.check(people, row, told[row])

    def test_great_numbers(self):
        one, other = great_pair()
        many = math.comb(33, 14)
        self.assertEqual(history_at(one, other, 0), ("a",) * 19 + ("d",) * 14)
        self.assertEqual(history_at(one, other, many - 1), ("d",) * 14 + ("a",) * 19)
        self.assertIsNone(next_history(one, other, ("d",) * 14 + ("a",) * 19))
        lot = random.Random(2)
        for number in [1, many // 2, many - 2] + [lot.randrange(many - 1) for _ in range(3)]:
            history = history_at(one, other, number)
            self.assertIs(is_history(one, other, history), True)
            self.assertEqual(history_number(one, other, history), number)
            self.assertEqual(history_number(one, other, next_history(one, other, history)), number + 1)
        drawn = drawn_history(one, other, 10 ** 60 - 7)
        self.assertEqual(history_number(one, other, drawn), (10 ** 60 - 7) % many)
        for number in [many, 10 ** 60 - 1]:
            with self.assertRaises(TooGreat):
                history_at(one, other, number)

    def test_names_of_callers_alone(self):
        people = [("b", 0, 0), ("a", 0, 1), ("c", 5, 1)]
        one, other = Standing(people), at(people, (0, 0, 4))
        self.assertEqual(history_at(one, other, 0), ("b",))
        self.assertEqual(bad_of(history_number, one, other, ("a",)), 0)

    def test_unlike_people_ahead_of_all_else(self):
        for rows in unlike(S):
            for function in [history_at, drawn_history]:
                for number in [0, 10 ** 60 - 1]:
                    with self.assertRaises(UnlikePeople):
                        function(Standing(S), Standing(rows), number)
            for function in [history_number, next_history]:
                for value in [(), None, ("eve",)]:
                    with self.assertRaises(UnlikePeople):
                        function(Standing(S), Standing(rows), value)


class BadHistoriesTest(unittest.TestCase):
    def check(self, one, other, value, number):
        with self.subTest(value=value):
            for function in [history_number, next_history]:
                self.assertEqual(bad_of(function, one, other, value), number)

    def test_no_tuple(self):
        for value in anything() + [["cid", "bob"], [], "cid"]:
            if not isinstance(value, tuple):
                self.check(Standing(S), at(S, GOAL), value, 0)
                self.check(Standing(S), Standing(S), value, 0)

    def test_a_member_that_is_no_caller_then(self):
        one, other = Standing(S), at(S, GOAL)
        for member in anything() + ["eve", "bob", ["ann"], ("ann",)]:
            if member != "ann":
                self.check(one, other, (member,), 0)
                self.check(one, other, (member, "cid"), 0)
        for member in anything() + ["eve", "cid", ["ann"], ("ann",)]:
            self.check(one, other, ("cid", member), 1)
            self.check(one, other, ("cid", member, "eve"), 1)
        self.check(one, other, ("ann", "cid", "eve"), 2)
        # All callers lead on to 5 here, but then nobody can call.
        self.check(one, other, ("cid",) + ("bob",) * 3 + ("dan", "ann"), 5)

    def test_the_goal_not_behind_them(self):
        one, other = Standing(S), at(S, GOAL)
        for value in [(), ("ann",), ("ann", "cid"), ("ann", "cid", "dan", "ann"), ("dan", "dan", "dan")]:
            self.check(one, other, value, len(value))

    def test_where_none_leads(self):
        one, other = Standing(S), at(S, (0, 3, 4, 8))
        self.check(one, other, (), 0)
        self.check(one, other, ("dan",), 1)
        self.check(one, other, ("bob",), 0)
        self.check(one, other, None, 0)

    def test_against_call_by_call(self):
        lot = random.Random(3)
        for _ in range(60):
            people = plainways.lively_people(lot, 4, 5) or S[:2]
            told = plainways.histories_from(people, plain.callers)
            row = lot.choice(sorted(told))
            names = [name for name, _, _ in people]
            for _ in range(20):
                value = tuple(lot.choice(names) for _ in range(lot.randrange(5)))
                now, number = people, None
                for k, name in enumerate(value):
                    if name not in plain.callers(now):
                        number = k
                        break
                    now = plain.called(now, name)
                if number is None and tuple(now) != row:
                    number = len(value)
                self.assertEqual(number is None, value in told[row])
                self.check(Standing(people), Standing(list(row)), value, number)

    def test_how_many_there_are(self):
        self.assertEqual(count_histories(Standing(S), at(S, GOAL)), 7)
        with self.assertRaises(TooGreat):
            history_at(Standing(S), at(S, GOAL), 7)


if __name__ == "__main__":
    unittest.main()
