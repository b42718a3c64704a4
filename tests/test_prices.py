import random
import unittest

import plain
from oddcrowds.errors import BadCall, NoLead, UnlikePeople
from oddcrowds.leading import judge_lead
from oddcrowds.meeting import call_numbers
from oddcrowds.meetscripts import meet_script
from oddcrowds.prices import cheapest_script, lead_prices, price_of
from oddcrowds.scripts import walked
from oddcrowds.standings import Standing
from plain import S
from test_leading import E, unlike
from test_leadscripts import positions, random_script
from test_parting import T, at
from values import anything

FAR = 10 ** 30
PRICES = [[0, 0, 0], [1, 1, 1], [1, 0, 0], [0, 1, 0], [0, 0, 1], [2, 5, 3], [3, 2, 7], [1, 9, 1], [9, 1, 9], [4, 7, 3],
          [FAR, 0, FAR], [0, FAR, 0], [FAR, FAR, FAR], [FAR, 2, FAR - 1]]


def plain_price(people, script, prices):
    """The price of a script, call by call."""
    found = 0
    for row in script:
        found += sum(prices[position] for position in positions(people, row))
        people = plain.behind_row(people, *row)
    return found


class PriceOfTest(unittest.TestCase):
    def check(self, people, script, prices, price):
        with self.subTest(people=people, script=script, prices=prices):
            self.assertEqual(price_of(Standing(people), script, prices), price)
            self.assertEqual(price_of(Standing(people), tuple(script), tuple(prices)), price)

    def test_examples(self):
        self.check(S, [("cid", 4), ("dan", 1)], [3, 5, 7], 27)
        self.check(S, [("ann", 4), ("dan", 5)], [3, 5, 7], 47)
        self.check(S, [("ann", 1), ("dan", 1), ("cid", 1)], [3, 5, 7], 15)
        self.check(S, [], [3, 5, 7], 0)
        self.check([], [], [3, 5, 7], 0)

    def test_rows_whose_calls_have_two_prices(self):
        people = [("a", 0, 0), ("b", 2, 1), ("c", 9, 0)]
        self.check(people, [("b", 2)], [3, 5, 100], 10)
        self.check(people, [("b", 7)], [3, 5, 100], 25)
        people = [("a", 0, 0), ("b", 7, 1), ("c", 9, 0)]
        self.check(people, [("b", 7)], [100, 5, 3], 25)
        people = [("a", 0, 0), ("b", 2, 1), ("c", 3, 0), ("d", 9, 0)]
        self.check(people, [("b", 7)], [3, 5, 100], 25)

    def test_two_crowds_alone(self):
        people = [("a", 0, 1), ("b", 5, 1)]
        self.check(people, [("a", 5)], [3, 100, 7], 15)
        self.check(people, [("b", 5)], [3, 100, 7], 35)
        self.check(people, [("a", 1), ("b", 1), ("a", 3)], [3, 100, 7], 19)

    def test_great_numbers(self):
        people = [("a", 0, 0), ("b", FAR, 1), ("c", 3 * FAR, 0)]
        self.check(people, [("b", 2 * FAR)], [FAR, FAR - 1, 0], FAR * (FAR - 1) + FAR * FAR)

    def test_call_by_call(self):
        lot = random.Random(1)
        for _ in range(400):
            people = plain.random_people(lot, 7, 12)
            script = random_script(lot, people, lot.randrange(7))
            prices = lot.choice(PRICES)
            self.check(people, script, prices, plain_price(people, script, prices))

    def test_bad_calls(self):
        for script, number in [([("cid", 5)], 0), ([("cid", 4), ("cid", 1)], 1), ([("cid", 4), ["dan", 1]], 1),
                               ([("cid", 4), ("dan", 1), None], 2), ([("eve", 1)], 0)]:
            with self.subTest(script=script):
                with self.assertRaises(BadCall) as caught:
                    price_of(Standing(S), script, [1, 2, 3])
                self.assertEqual(caught.exception.number, number)
        for value in anything():
            with self.assertRaises(BadCall):
                price_of(Standing(S), [value], [1, 2, 3])


class LeadPricesTest(unittest.TestCase):
    def check(self, one, other, prices, least, most):
        with self.subTest(one=one.people(), other=other.people(), prices=prices):
            self.assertEqual(lead_prices(one, other, prices), (least, most))
            self.assertIs(type(lead_prices(one, other, prices)), tuple)
            self.assertEqual(lead_prices(one, other, tuple(prices)), (least, most))
            script = cheapest_script(one, other, prices)
            self.assertIs(type(script), list)
            self.assertLessEqual(len(script), 200)
            self.assertEqual(walked(one, script), other)
            self.assertEqual(price_of(one, script, prices), least)
            self.assertEqual(cheapest_script(one, other, prices), script)

    def test_examples(self):
        one, other = Standing(S), at(S, (2, 4, 4, 7))
        # Two calls between, or one of each crowd.
        self.check(one, other, [3, 5, 7], 10, 15)
        self.check(one, other, [1, 5, 1], 7, 10)
        self.check(one, other, [1, 4, 3], 8, 8)
        self.check(one, other, [0, 0, 0], 0, 0)
        self.check(one, at(S, (5, 5, 5, 5)), [3, 5, 7], 27, 47)
        self.check(one, one, [3, 5, 7], 0, 0)
        self.check(Standing([]), Standing([]), [3, 5, 7], 0, 0)

    def test_even_voices(self):
        one = Standing(T)
        self.check(one, at(T, (2, 2, 2, 2)), [3, 5, 7], 12, 12)
        self.check(one, at(T, (1, 1, 1, 1)), [3, 5, 7], 8, 8)
        self.check(one, at(T, (1, 1, 2, 2)), [3, 5, 7], 10, 10)

    def test_two_crowds_alone(self):
        people = [("a", 0, 1), ("b", 5, 1)]
        self.check(Standing(people), at(people, (1, 3)), [3, 100, 7], 13, 13)

    def test_like_call_by_call(self):
        lot = random.Random(2)
        signs = []
        for _ in range(150):
            people = plain.random_people(lot, 6, 9)
            told = plain.shares_from(people)
            rows = sorted(told, key=lambda row: (-len(told[row]), row))[:3]
            for row in rows + lot.sample(sorted(told), min(10, len(told))):
                prices = lot.choice(PRICES)
                found = [sum(calls * price for calls, price in zip(share, prices)) for share in told[row]]
                self.check(Standing(people), Standing(list(row)), prices, min(found), max(found))
                step = prices[0] - prices[1] + prices[2]
                signs.append((len(set(found)) > 1, (step > 0) - (step < 0)))
        for sign in (-1, 1):
            self.assertGreater(signs.count((True, sign)), 10)
        self.assertGreater(signs.count((False, 0)), 10)
        self.assertEqual(signs.count((True, 0)), 0)

    def test_great_gaps(self):
        people = [("a", -FAR, 1), ("b", 0, 1), ("c", FAR, 1)]
        one, other = Standing(people), at(people, (0, 0, 0))
        self.check(one, other, [FAR, FAR, FAR], FAR * FAR, 2 * FAR * FAR)
        self.check(one, other, [0, FAR, 0], 0, FAR * FAR)
        self.check(one, other, [1, 2, 1], 2 * FAR, 2 * FAR)

    def test_forty_people(self):
        lot = random.Random(3)
        for _ in range(5):
            rows = [("p" + str(k), k * 10 ** 28 + lot.randrange(10 ** 28), lot.randrange(2)) for k in range(40)]
            one = Standing(plain.with_voices(lot.sample(rows, 40), 1))
            least, most = call_numbers(one)
            scripts = [meet_script(one, calls) for calls in (least, most)]
            other = walked(one, scripts[0])
            for prices in PRICES:
                found = sorted(price_of(one, script, prices) for script in scripts)
                self.check(one, other, prices, found[0], found[1])

    def test_errors(self):
        for function in [lead_prices, cheapest_script]:
            for people in [S, T, E]:
                for rows in unlike(people):
                    with self.assertRaises(UnlikePeople):
                        function(Standing(people), Standing(rows), [1, 2, 3])
            for people, places in [(S, (0, 3, 4, 8)), (S, (0, 4, 3, 9)), (E, (1, 2, 5)), (T, (3, 3, 3, 3))]:
                one, other = Standing(people), at(people, places)
                with self.assertRaises(NoLead) as caught:
                    function(one, other, [1, 2, 3])
                self.assertIs(judge_lead(one, other, caught.exception.paper), True)

    def test_what_is_passed_stays_as_it_is(self):
        prices = [3, 5, 7]
        lead_prices(Standing(S), at(S, (2, 4, 4, 7)), prices)
        cheapest_script(Standing(S), at(S, (2, 4, 4, 7)), prices).clear()
        self.assertEqual(prices, [3, 5, 7])
        self.assertEqual(price_of(Standing(S), cheapest_script(Standing(S), at(S, (2, 4, 4, 7)), prices), prices), 10)


if __name__ == "__main__":
    unittest.main()
