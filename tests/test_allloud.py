import random
import unittest

import plain
import plainways
from oddcrowds.allloud import can_meet_free, free_called, free_numbers, free_numbers_at, free_paper
from oddcrowds.errors import BadCall, UnknownName
from oddcrowds.gaps import even_sum, odd_sum
from oddcrowds.meeting import meeting_place
from oddcrowds.standings import Standing, are_like
from plain import S
from values import anything, no_integers

FAR = 10 ** 30


def somebody(lot, most, wide):
    """Random people, at least one."""
    return plain.random_people(lot, most, wide) or [("p0", 3, lot.randrange(2))]


def meetings(people):
    """The dict from each place to the set of the numbers of free calls behind which all are together there."""
    found = plainways.free_numbers_from(people)
    return {row[0][1]: numbers for row, numbers in found.items() if plain.together(row)}


def word_of(people, place, calls):
    """The word of the free paper, by the points of S8.5 one after the other."""
    first, last = min(at for _, at, _ in people), max(at for _, at, _ in people)
    widest = max([width for _, width, _ in plain.gaps(people)], default=0)
    over = last - first - calls
    if over < 0:
        return "many"
    if over > place - first:
        return "left"
    if over > last - place:
        return "right"
    return "wide" if over > last - first - widest else "meets"


class FreeCalledTest(unittest.TestCase):
    def test_example(self):
        for name, places in [("ann", [0, 2, 3, 8]), ("bob", [1, 3, 3, 8]), ("cid", [1, 4, 4, 8]),
                             ("dan", [1, 4, 5, 9])]:
            behind = free_called(Standing(S), name)
            self.assertEqual([place for _, place, _ in behind.people()], places)
            self.assertIs(are_like(behind, Standing(S)), True)

    def test_like_one_by_one(self):
        lot = random.Random(1)
        for _ in range(300):
            people = somebody(lot, 7, 9)
            standing = Standing(people)
            for name, _, _ in people:
                with self.subTest(people=people, name=name):
                    if plain.together(people):
                        with self.assertRaises(BadCall) as caught:
                            free_called(standing, name)
                        self.assertEqual(caught.exception.number, 0)
                    else:
                        self.assertEqual(free_called(standing, name).people(), plain.called(people, name))
                    self.assertEqual(standing, Standing(people))

    def test_great_gaps(self):
        people = [("a", -FAR, 0), ("b", 0, 1), ("c", FAR, 0)]
        self.assertEqual(free_called(Standing(people), "a").places(), [-FAR, -1, FAR - 1])

    def test_nobodys_names_count_ahead_of_all_together(self):
        for people in [S, [("ann", 5, 1)], [("ann", 5, 1), ("bob", 5, 0)]]:
            for name in anything() + ["eve", "an", "anna"]:
                with self.subTest(people=people, name=name):
                    with self.assertRaises(UnknownName) as caught:
                        free_called(Standing(people), name)
                    self.assertIs(caught.exception.name, name)


class FreeNumbersTest(unittest.TestCase):
    def check(self, people):
        standing, told = Standing(people), meetings(people)
        first, last = min(told), max(told)
        with self.subTest(people=people):
            numbers = set().union(*told.values())
            self.assertEqual(free_numbers(standing), (min(numbers), max(numbers)))
            self.assertEqual(numbers, set(range(min(numbers), max(numbers) + 1)))
            self.assertEqual((first, last), (standing.places()[0], standing.places()[-1]))
            for place in range(first - 2, last + 3):
                found = told.get(place, set())
                self.assertEqual(free_numbers_at(standing, place), (min(found), max(found)) if found else None)
                for calls in range(-2, last - first + 4):
                    self.assertIs(can_meet_free(standing, place, calls), calls in found)
                    self.assertEqual(free_paper(standing, place, calls), (word_of(people, place, calls),))
                    self.assertEqual(calls in found, word_of(people, place, calls) == "meets")

    def test_example(self):
        standing = Standing(S)
        self.check(S)
        self.assertEqual(free_numbers(standing), (5, 9))
        self.assertEqual(free_numbers_at(standing, 4), (5, 9))
        self.assertEqual(free_numbers_at(standing, 1), (8, 9))
        self.assertEqual(free_numbers_at(standing, 0), (9, 9))
        self.assertIsNone(free_numbers_at(standing, -1))
        self.assertIsNone(free_numbers_at(standing, 10))

    def test_together(self):
        for people in [[("a", 5, 1)], [("a", 5, 0)], [("a", -3, 1), ("b", -3, 0), ("c", -3, 1)]]:
            self.check(people)
            self.assertEqual(free_numbers(Standing(people)), (0, 0))
            self.assertEqual(free_numbers_at(Standing(people), people[0][1]), (0, 0))
            self.assertIsNone(free_numbers_at(Standing(people), people[0][1] + 1))

    def test_like_call_by_call(self):
        lot = random.Random(2)
        for _ in range(120):
            self.check(somebody(lot, 6, 8))

    def test_one_wide_gap(self):
        for widths in [(1, 6, 1), (6, 1), (1, 6), (4, 4), (3, 6, 3), (2, 2, 2, 2), (1, 1, 5), (8,)]:
            places = [sum(widths[:k]) for k in range(len(widths) + 1)]
            self.check([("p" + str(k), place, 0) for k, place in enumerate(places)])

    def test_no_fewer_than_with_silent_crowds(self):
        lot = random.Random(3)
        for _ in range(200):
            standing = Standing(plain.with_voices(somebody(lot, 7, 9), 1))
            odds, evens = odd_sum(standing), even_sum(standing)
            self.assertEqual(free_numbers_at(standing, meeting_place(standing)), (max(odds, evens), odds + evens))

    def test_great_gaps(self):
        people = [("a", -FAR, 0), ("b", 0, 0), ("c", FAR, 0)]
        standing = Standing(people)
        self.assertEqual(free_numbers(standing), (FAR, 2 * FAR))
        self.assertEqual(free_numbers_at(standing, 0), (FAR, 2 * FAR))
        self.assertEqual(free_numbers_at(standing, -FAR), (2 * FAR, 2 * FAR))
        self.assertEqual(free_numbers_at(standing, FAR - 1), (2 * FAR - 1, 2 * FAR))
        self.assertIs(can_meet_free(standing, 5, FAR + 5), True)
        self.assertEqual(free_paper(standing, 5, FAR + 4), ("right",))
        self.assertEqual(free_paper(standing, -5, FAR + 4), ("left",))
        wide = Standing([("a", 0, 0), ("b", 10, 0), ("c", FAR, 0)])
        self.assertEqual(free_numbers(wide), (FAR - 10, FAR))
        self.assertEqual(free_paper(wide, 500, FAR - 11), ("wide",))
        self.assertEqual(free_paper(wide, 500, FAR - 10), ("meets",))

    def test_odd_sums(self):
        self.assertEqual(free_numbers(Standing([("a", 0, 0), ("b", 3, 0), ("c", 7, 0)])), (4, 7))
        self.assertEqual(free_numbers(Standing([("a", 0, 0), ("b", 2, 0), ("c", 4, 0), ("d", 7, 0)])), (4, 7))


class FreePaperTest(unittest.TestCase):
    def check(self, place, calls, word):
        with self.subTest(place=place, calls=calls):
            self.assertEqual(free_paper(Standing(S), place, calls), (word,))
            self.assertIs(type(free_paper(Standing(S), place, calls)), tuple)
            self.assertIs(can_meet_free(Standing(S), place, calls), word == "meets")

    def test_each_word(self):
        self.check(4, 5, "meets")
        self.check(4, 10, "many")
        self.check(3, 5, "left")
        self.check(6, 5, "right")
        self.check(5, 4, "right")
        self.check(4, 4, "left")

    def test_wide_alone(self):
        standing = Standing([("a", 0, 0), ("b", 2, 0), ("c", 9, 0)])
        self.assertEqual(free_paper(standing, 4, 6), ("wide",))
        self.assertEqual(free_paper(standing, 4, 7), ("meets",))

    def test_the_first_word_where_several_would_do(self):
        self.check(-1, 10, "many")
        self.check(-100, 100, "many")
        self.check(100, 100, "many")
        self.check(0, 0, "left")
        self.check(9, 8, "right")
        self.check(9, 0, "right")
        self.check(4, 0, "left")
        self.check(-1, 9, "left")
        self.check(10, 9, "right")

    def test_numbers_below_0(self):
        for calls in [-1, -5, -FAR]:
            self.check(0, calls, "left")
            self.check(9, calls, "left")
        self.check(100, -1, "right")
        self.check(100, -91, "right")
        self.check(100, -92, "left")

    def test_what_is_no_integer(self):
        for value in no_integers() + ["ann", [4], (4,)]:
            self.check(value, 5, "many")
            self.check(4, value, "many")
            self.check(-1, value, "many")
            self.check(value, -1, "many")
            with self.subTest(value=value):
                self.assertIsNone(free_numbers_at(Standing(S), value))

    def test_true_in_the_place_of_1(self):
        standing = Standing([("a", 0, 1), ("b", 1, 1)])
        self.assertEqual(free_paper(standing, 1, 1), ("meets",))
        self.assertEqual(free_paper(standing, True, 1), ("many",))
        self.assertEqual(free_paper(standing, 1, True), ("many",))
        self.assertIs(can_meet_free(standing, True, 1), False)
        self.assertIs(can_meet_free(standing, 1, True), False)
        self.assertIsNone(free_numbers_at(standing, True))
        self.assertEqual(free_numbers_at(standing, 1), (1, 1))


if __name__ == "__main__":
    unittest.main()
