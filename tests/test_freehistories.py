import math
import random
import unittest

import plain
import plainways
from oddcrowds.errors import UnlikePeople
from oddcrowds.freehistories import count_free, free_counts, is_free_history
from oddcrowds.freeleads import free_lead_numbers
from oddcrowds.standings import Standing
from plain import S
from test_leading import unlike
from test_parting import at
from values import anything


class FreeHistoriesTest(unittest.TestCase):
    def check(self, people, row, histories):
        one, other = Standing(people), Standing(list(row))
        with self.subTest(people=people, row=row):
            self.assertEqual(count_free(one, other), len(histories))
            self.assertEqual(free_counts(one, other), plainways.by_calls(histories))
            self.assertIs(type(free_counts(one, other)), list)
            self.assertTrue(all(type(pair) is tuple for pair in free_counts(one, other)))
            self.assertEqual([calls for calls, _ in free_counts(one, other)], free_lead_numbers(one, other))
            for history in histories:
                self.assertIs(is_free_history(one, other, history), True)

    def test_example(self):
        histories = [("ann", "cid"), ("cid", "ann")]
        self.assertEqual(plainways.histories_from(S, plainways.free_callers)[tuple(at(S, (1, 3, 3, 7)).people())],
                         histories)
        self.check(S, at(S, (1, 3, 3, 7)).people(), histories)

    def test_to_itself(self):
        for people in [[], S, [("a", 5, 1)], [("a", 5, 0), ("b", 5, 1)]]:
            self.check(people, people, [()])
            self.assertIs(is_free_history(Standing(people), Standing(people), ()), True)
            self.assertIs(is_free_history(Standing(people), Standing(people), []), False)

    def test_where_none_leads(self):
        for people, places in [(S, (0, 4, 3, 9)), (S, (2, 3, 4, 4)), (S, (10, 10, 10, 10)), ([("a", 5, 1)], (6,))]:
            self.check(people, at(people, places).people(), [])
            self.assertEqual(free_counts(Standing(people), at(people, places)), [])
            self.assertIs(is_free_history(Standing(people), at(people, places), ()), False)

    def test_call_by_call(self):
        lot = random.Random(1)
        for _ in range(60):
            people = plain.random_people(lot, 5, 6)
            told = plainways.histories_from(people, plainways.free_callers)
            for row in lot.sample(sorted(told), min(len(told), 12)):
                self.check(people, row, told[row])

    def test_unlike_lengths(self):
        people = [("a", 0, 0), ("b", 1, 0), ("c", 2, 0), ("d", 4, 0)]
        told = plainways.histories_from(people, plainways.free_callers)
        row = tuple((name, 2, 0) for name, _, _ in people)
        self.check(people, row, told[row])
        self.assertEqual(len(free_counts(Standing(people), Standing(list(row)))), 3)

    def test_values_of_all_kinds(self):
        one, other = Standing(S), at(S, (1, 3, 3, 7))
        for value in anything() + [("ann",), ("ann", "cid", "ann"), ("cid",), ["ann", "cid"], ("ann", "eve"),
                                   ("ann", True), ("ann", ["cid"]), ("ann", "dan"), ((), "cid"), (["ann"], "cid"),
                                   ("ann", "bob"), ("ann", "cid", None)]:
            with self.subTest(value=value):
                self.assertIs(is_free_history(one, other, value), False)
        self.assertIs(is_free_history(one, other, ("ann", "cid")), True)

    def test_the_first_person_of_a_crowd_alone_tells_it(self):
        people = [("b", 0, 0), ("a", 0, 1), ("d", 5, 1), ("c", 5, 0)]
        behind = at(people, (0, 0, 4, 4))
        self.assertIs(is_free_history(Standing(people), behind, ("b",)), True)
        self.assertIs(is_free_history(Standing(people), behind, ("a",)), False)
        behind = at(people, (1, 1, 5, 5))
        self.assertIs(is_free_history(Standing(people), behind, ("d",)), True)
        self.assertIs(is_free_history(Standing(people), behind, ("c",)), False)

    def test_all_values_of_names(self):
        lot = random.Random(2)
        for _ in range(20):
            people = plain.random_people(lot, 4, 4) or S[:2]
            told = plainways.histories_from(people, plainways.free_callers)
            row = lot.choice(sorted(told))
            names = [name for name, _, _ in people]
            for _ in range(200):
                history = tuple(lot.choice(names) for _ in range(lot.randrange(5)))
                self.assertIs(is_free_history(Standing(people), Standing(list(row)), history), history in told[row])

    def test_calls_in_any_sequence(self):
        # The first crowd calls nine times, the last one too, and the gap between the two others stays wide.
        people = [("a", 0, 0), ("b", 12, 0), ("c", 28, 0), ("d", 40, 0)]
        one, other = Standing(people), at(people, (9, 12, 19, 22))
        self.assertEqual(free_counts(one, other), [(18, math.comb(18, 9))])

    def test_very_many_histories(self):
        people = [("a", 0, 0), ("b", 5, 0), ("c", 15, 0), ("d", 25, 0), ("e", 35, 0), ("f", 40, 0)]
        one, other = Standing(people), at(people, (10, 13, 20, 25, 28, 28))
        self.assertEqual([calls for calls, _ in free_counts(one, other)], free_lead_numbers(one, other))
        self.assertEqual(sum(many for _, many in free_counts(one, other)), count_free(one, other))
        self.assertGreater(count_free(one, other), 10 ** 5)

    def test_forty_people(self):
        people = [("p" + str(k), k, 0) for k in range(40)]
        behind = people
        for name in ["p5", "p20", "p30", "p35"]:
            behind = plain.called(behind, name)
        self.assertEqual(count_free(Standing(people), Standing(behind)), 24)

    def test_unlike_people(self):
        for rows in unlike(S):
            for function in [count_free, free_counts]:
                with self.assertRaises(UnlikePeople):
                    function(Standing(S), Standing(rows))
            for value in [(), None, ("ann",)]:
                with self.assertRaises(UnlikePeople):
                    is_free_history(Standing(S), Standing(rows), value)

    def test_nothing_is_shared(self):
        free_counts(Standing(S), at(S, (1, 3, 3, 7))).clear()
        self.assertEqual(free_counts(Standing(S), at(S, (1, 3, 3, 7))), [(2, 2)])


if __name__ == "__main__":
    unittest.main()
