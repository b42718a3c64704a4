import random
import unittest

import plain
import plainways
from oddcrowds.allloud import free_numbers_at
from oddcrowds.errors import UnlikePeople
from oddcrowds.freeleads import free_lead_numbers, free_lead_script
from oddcrowds.freescripts import free_walked
from oddcrowds.scripts import calls_of
from oddcrowds.standings import Standing, shifted_standing, turned_standing
from plain import S
from test_leading import unlike
from test_parting import all_near, at
from values import anything, no_integers


def wide_people(lot, many):
    """So many people whose gaps add up to 40, some of them at one place."""
    places = sorted([0, 40] + [lot.randrange(41) for _ in range(many - 2)])
    return [("p" + str(k), place, lot.randrange(2)) for k, place in enumerate(places)]


def walked_by_chance(lot, people, calls):
    """The people behind so many free calls, or fewer, if all are together then."""
    for _ in range(calls):
        if plain.together(people):
            break
        people = plain.called(people, lot.choice(people)[0])
    return people


class FreeLeadsTest(unittest.TestCase):
    def check(self, one, other, numbers):
        with self.subTest(one=one.people(), other=other.people()):
            found = free_lead_numbers(one, other)
            self.assertIs(type(found), list)
            if numbers is not None:
                self.assertEqual(found, numbers)
            for calls in found:
                script = free_lead_script(one, other, calls)
                self.assertIs(type(script), list)
                self.assertTrue(all(type(row) is tuple for row in script))
                self.assertLessEqual(len(script), 400)
                self.assertEqual(calls_of(script), calls)
                self.assertEqual(free_walked(one, script), other)
                self.assertEqual(free_lead_script(one, other, calls), script)
            for calls in [number for number in range(-2, 45) if number not in found]:
                self.assertIsNone(free_lead_script(one, other, calls))

    def check_places(self, people, places, numbers):
        self.check(Standing(people), at(people, places), numbers)

    def test_examples(self):
        self.check_places(S, (1, 3, 3, 7), [2])
        self.check_places(S, (0, 3, 4, 9), [0])
        self.check_places(S, (1, 4, 4, 8), [1])
        self.check_places(S, (4, 4, 4, 4), [5, 6, 7, 8, 9])
        self.check_places(S, (1, 1, 1, 1), [8, 9])
        self.check_places(S, (1, 3, 3, 8), [1])
        self.check_places(S, (0, 0, 0, 0), [9])

    def test_a_piece_that_does_not_fall(self):
        for places in [(0, 2, 2, 7), (2, 3, 4, 4), (1, 1, 2, 4), (3, 5, 6, 9)]:
            self.check_places(S, places, [])
        for places in [(0, 2, 3), (0, 1, 2), (1, 2, 4), (1, 3, 3)]:
            self.check_places([("a", 0, 0), ("b", 2, 0), ("c", 4, 0)], places, [])

    def test_not_in_order(self):
        for places in [(0, 4, 3, 9), (0, 3, 4, 10), (9, 3, 4, 0), (0, 4, 4, 9), (-1, 3, 4, 8), (1, 4, 5, 10)]:
            self.check_places(S, places, [])
        self.check_places([("a", 0, 0), ("b", 0, 0), ("c", 5, 0)], (1, 2, 5), [])

    def test_other_places(self):
        for places in [(1, 4, 5, 10), (3, 3, 3, 3), (-1, -1, -1, -1), (10, 10, 10, 10)]:
            self.check_places(S, places, None)
        self.check_places(S, (-1, -1, -1, -1), [])
        self.check_places(S, (10, 10, 10, 10), [])
        self.check_places([("a", 5, 1)], (6,), [])
        self.check_places([("a", 5, 1), ("b", 5, 1)], (4, 4), [])
        self.check_places([("a", 5, 1), ("b", 5, 1)], (5, 6), [])

    def test_to_itself(self):
        for people in [S, [("a", 5, 1)], [("a", 5, 0), ("b", 5, 1)], [("a", 5, 0), ("b", 9, 0)]]:
            self.check_places(people, [place for _, place, _ in people], [0])

    def test_nobody(self):
        self.check(Standing([]), Standing([]), [0])
        self.assertEqual(free_lead_script(Standing([]), Standing([]), 0), [])

    def test_voices_do_not_matter(self):
        for voices in [(0, 0, 0, 0), (1, 1, 1, 1), (0, 1, 0, 0)]:
            people = [(name, place, voice) for (name, place, _), voice in zip(S, voices)]
            self.check_places(people, (1, 3, 3, 7), [2])

    def test_together_as_S8_2_tells(self):
        lot = random.Random(1)
        for _ in range(60):
            people = plain.random_people(lot, 6, 9) or S
            one = Standing(people)
            for place in range(one.places()[0] - 1, one.places()[-1] + 2):
                numbers = free_numbers_at(one, place)
                told = [] if numbers is None else list(range(numbers[0], numbers[1] + 1))
                self.check_places(people, [place] * len(people), told)

    def test_all_that_is_reached_call_by_call(self):
        lot = random.Random(2)
        for _ in range(60):
            people = plain.random_people(lot, 6, 9)
            told = plainways.free_numbers_from(people)
            for row in lot.sample(sorted(told), min(len(told), 30)):
                self.check(Standing(people), Standing(list(row)), sorted(told[row]))
                near = plain.near(lot, row) if row else row
                self.check(Standing(people), Standing(list(near)), sorted(told.get(tuple(near), set())))

    def test_all_near(self):
        lot = random.Random(3)
        for _ in range(25):
            people = plain.random_people(lot, 4, 5)
            told = plainways.free_numbers_from(people)
            for other in all_near(people, 1) if people else []:
                numbers = sorted(told.get(tuple(other.people()), set()))
                self.assertEqual(free_lead_numbers(Standing(people), other), numbers)

    def test_turned_and_shifted(self):
        lot = random.Random(4)
        for _ in range(100):
            people = plain.random_people(lot, 7, 20)
            one, other = Standing(people), Standing(walked_by_chance(lot, people, lot.randrange(12)))
            numbers = free_lead_numbers(one, other)
            self.assertNotEqual(numbers, [])
            self.check(turned_standing(one), turned_standing(other), numbers)
            self.check(shifted_standing(one, 10 ** 30), shifted_standing(other, 10 ** 30), numbers)

    def test_gaps_that_add_up_to_40(self):
        lot = random.Random(5)
        for many in [3, 5, 8, 15, 25, 40, 40, 40]:
            people = wide_people(lot, many)
            for calls in [0, 3, 8, 15, 25, 39]:
                behind = walked_by_chance(lot, people, calls)
                self.check(Standing(people), Standing(behind), None)
                made = free_lead_numbers(Standing(people), Standing(behind))
                self.assertTrue(made)

    def test_forty_people_one_step_apart(self):
        one = Standing([("p" + str(k), k, 0) for k in range(40)])
        self.check(one, Standing([("p" + str(k), 20, 0) for k in range(40)]), list(range(20, 40)))
        # Each fourth gap is kept; of the three between two such ones the sum is odd.
        self.check(one, Standing([("p" + str(k), (k + 3) // 4, 0) for k in range(40)]), [])
        # Each third one is kept: the two between fall at one call.
        other = Standing([("p" + str(k), 13 + (k + 2) // 3, 0) for k in range(40)])
        self.check(one, other, [13])

    def test_calls_of_all_kinds(self):
        for value in no_integers() + ["ann", [2], (2,)]:
            for places in [(1, 3, 3, 7), (0, 3, 4, 9), (1, 4, 4, 8), (1, 1, 1, 1)]:
                with self.subTest(value=value):
                    self.assertIsNone(free_lead_script(Standing(S), at(S, places), value))
        for value in anything():
            if not isinstance(value, int) or value != 2:
                self.assertIsNone(free_lead_script(Standing(S), at(S, (1, 3, 3, 7)), value))
        self.assertIsNone(free_lead_script(Standing([]), Standing([]), False))
        self.assertIsNone(free_lead_script(Standing(S), at(S, (1, 4, 4, 8)), True))

    def test_unlike_people_ahead_of_all_else(self):
        for rows in unlike(S) + [[(name, place + 1, voice) for name, place, voice in S[1:]]]:
            for one, other in [(S, rows), (rows, S)]:
                with self.assertRaises(UnlikePeople):
                    free_lead_numbers(Standing(one), Standing(other))
                for calls in [0, 2, None, "x"]:
                    with self.assertRaises(UnlikePeople):
                        free_lead_script(Standing(one), Standing(other), calls)

    def test_nothing_is_shared(self):
        one, other = Standing(S), at(S, (1, 3, 3, 7))
        free_lead_numbers(one, other).clear()
        free_lead_script(one, other, 2).clear()
        self.assertEqual(free_lead_numbers(one, other), [2])
        self.assertNotEqual(free_lead_script(one, other, 2), [])


if __name__ == "__main__":
    unittest.main()
