import math
import random
import unittest

import plain
import plainways
from oddcrowds.between import all_between
from oddcrowds.errors import UnlikePeople
from oddcrowds.histories import count_histories, counts_by_calls, is_history
from oddcrowds.leading import lead_bounds
from oddcrowds.scripts import walked
from oddcrowds.standings import Standing
from plain import S
from test_leading import E, unlike
from test_parting import T, at
from values import anything

GOAL = (2, 4, 4, 7)
SIX = [("ann", "cid", "dan"), ("ann", "dan", "cid"), ("cid", "ann", "dan"), ("cid", "dan", "ann"),
       ("dan", "ann", "cid"), ("dan", "cid", "ann")]


def great_pair():
    """Two standings with three hundred standings between and very many histories."""
    people = [("a", 0, 1), ("b", 2000, 0), ("c", 4000, 1), ("d", 6000, 1)]
    one = Standing(people)
    return one, walked(one, [("a", 19), ("d", 14)])


class HistoriesTest(unittest.TestCase):
    def check(self, people, row, histories):
        one, other = Standing(people), Standing(list(row))
        with self.subTest(people=people, row=row):
            self.assertEqual(count_histories(one, other), len(histories))
            counts = counts_by_calls(one, other)
            self.assertEqual(counts, plainways.by_calls(histories))
            self.assertIs(type(counts), list)
            self.assertTrue(all(type(pair) is tuple for pair in counts))
            if histories:
                least, most = lead_bounds(one, other)
                self.assertEqual([calls for calls, _ in counts], list(range(least, most + 1)))
            for history in histories:
                self.assertIs(is_history(one, other, history), True)

    def test_example(self):
        told = plainways.histories_from(S, plain.callers)[tuple(at(S, GOAL).people())]
        self.assertEqual(sorted(told), sorted([("cid", "bob")] + SIX))
        self.check(S, at(S, GOAL).people(), told)
        self.assertEqual(counts_by_calls(Standing(S), at(S, GOAL)), [(2, 1), (3, 6)])
        self.assertEqual(count_histories(Standing(S), at(S, GOAL)), 7)

    def test_to_itself(self):
        for people in [[], S, T, E, [("a", 5, 1)], [("a", 5, 0), ("b", 9, 0)]]:
            self.check(people, people, [()])
            self.assertIs(is_history(Standing(people), Standing(people), ()), True)
            self.assertIs(is_history(Standing(people), Standing(people), []), False)

    def test_where_none_leads(self):
        for people, places in [(S, (0, 3, 4, 8)), (S, (0, 4, 3, 9)), (E, (1, 2, 5)), (T, (3, 3, 3, 3)), ([("a", 5, 1)], (6,))]:
            self.check(people, at(people, places).people(), [])
            self.assertEqual(counts_by_calls(Standing(people), at(people, places)), [])
            self.assertIs(is_history(Standing(people), at(people, places), ()), False)

    def test_call_by_call(self):
        lot = random.Random(1)
        for _ in range(100):
            people = plainways.lively_people(lot, 6, 7)
            told = plainways.histories_from(people, plain.callers)
            for row in lot.sample(sorted(told), min(len(told), 12)):
                self.check(people, row, told[row])

    def test_values_of_all_kinds(self):
        one, other = Standing(S), at(S, GOAL)
        wrong = [("cid",), ["cid", "bob"], ("cid", "cid"), ("cid", "bob", "ann"), ("bob", "cid"), ("cid", "eve"),
                 ("cid", True), ("cid", ["bob"]), (["cid"], "bob"), ("cid", ("bob",)), ("ann", "cid"), (None, "bob"),
                 ("ann", "cid", "dan", "dan")]
        for value in anything() + wrong:
            with self.subTest(value=value):
                self.assertIs(is_history(one, other, value), False)
        for value in SIX + [("cid", "bob")]:
            self.assertIs(is_history(one, other, value), True)

    def test_all_values_of_names(self):
        lot = random.Random(2)
        for _ in range(30):
            people = plainways.lively_people(lot, 4, 5) or S[:2]
            told = plainways.histories_from(people, plain.callers)
            row = lot.choice(sorted(told))
            names = [name for name, _, _ in people]
            for _ in range(200):
                history = tuple(lot.choice(names) for _ in range(lot.randrange(5)))
                self.assertIs(is_history(Standing(people), Standing(list(row)), history), history in told[row])

    def test_three_hundred_between(self):
        one, other = great_pair()
        self.assertEqual(len(all_between(one, other)), 300)
        self.assertEqual(counts_by_calls(one, other), [(33, math.comb(33, 14))])
        self.assertEqual(count_histories(one, other), math.comb(33, 14))
        self.assertIs(is_history(one, other, ("a", "d") * 14 + ("a",) * 5), True)
        self.assertIs(is_history(one, other, ("a", "d") * 14 + ("a",) * 6), False)

    def test_two_hundred_calls(self):
        people = [("a", 0, 1), ("b", 1000, 1)]
        one = Standing(people)
        other = walked(one, [("a", 200)])
        self.assertEqual(counts_by_calls(one, other), [(200, 1)])
        self.assertIs(is_history(one, other, ("a",) * 200), True)
        self.assertIs(is_history(one, other, ("a",) * 199), False)

    def test_unlike_numbers_of_calls_with_many_histories(self):
        # With three kinds of calls at two gaps each number of calls has its own histories.
        people = [("a", 0, 1), ("b", 60, 1), ("c", 120, 1)]
        one = Standing(people)
        other = walked(one, [("a", 9), ("c", 9)])
        counts = counts_by_calls(one, other)
        # b calls as often as both others would have called.
        told = [(18 - k, math.factorial(18 - k) // math.factorial(9 - k) ** 2 // math.factorial(k)) for k in range(10)]
        self.assertEqual(counts, sorted(told))

    def test_forty_people(self):
        people = [("p" + str(k), k * 10 ** 28, 1) for k in range(40)]
        one = Standing(people)
        other = walked(one, [("p10", 3), ("p20", 4), ("p30", 1)])
        self.assertEqual(count_histories(one, other), math.factorial(8) // (6 * 24))

    def test_unlike_people(self):
        for rows in unlike(S):
            for function in [count_histories, counts_by_calls]:
                with self.assertRaises(UnlikePeople):
                    function(Standing(S), Standing(rows))
            for value in [(), None, ("ann",)]:
                with self.assertRaises(UnlikePeople):
                    is_history(Standing(S), Standing(rows), value)

    def test_nothing_is_shared(self):
        counts_by_calls(Standing(S), at(S, GOAL)).clear()
        self.assertEqual(counts_by_calls(Standing(S), at(S, GOAL)), [(2, 1), (3, 6)])


if __name__ == "__main__":
    unittest.main()
