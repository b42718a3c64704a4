import random
import unittest

import plain
from oddcrowds.errors import NoLead, UnlikePeople
from oddcrowds.leading import all_bounds, judge_lead, lead_bounds, lead_paper, leads
from oddcrowds.meeting import call_numbers, meeting_place
from oddcrowds.parting import is_end, left_calls
from oddcrowds.standings import Standing, shifted_standing, turned_standing
from plain import S
from test_parting import T, all_near, at
from values import anything, no_integers

FAR = 10 ** 30
LABELS = ["first", "last", "moved", "top"] + list(range(-1, 8))

# The example of S6.7.
E = [("eve", 0, 0), ("fay", 2, 1), ("gus", 5, 0)]


def unlike(people):
    """Lists of people who are not like these."""
    return [[], people[:-1], people[::-1], people + [("zoe", 5, 0)], [people[1], people[0]] + people[2:],
            [("zoe",) + people[0][1:]] + people[1:], [people[0][:2] + (1 - people[0][2],)] + people[1:]]


def paper_of(function, *values):
    """The paper of the NoLead that a function raises, or None."""
    try:
        function(*values)
    except NoLead as error:
        return error.paper
    return None


class LeadTest(unittest.TestCase):
    def check(self, people, places, numbers, word):
        """Check the numbers of calls, of which there are perhaps none, and the word with which right papers begin."""
        one, other = Standing(people), at(people, places)
        with self.subTest(people=people, places=places):
            self.assertIs(leads(one, other), bool(numbers))
            paper = lead_paper(one, other)
            self.assertEqual(paper[0], word)
            self.assertEqual(word == "leads", bool(numbers))
            self.assertIs(type(paper), tuple)
            self.assertIs(judge_lead(one, other, paper), True)
            self.assertEqual(lead_paper(one, other), paper)
            if numbers:
                self.assertEqual(lead_bounds(one, other), (numbers[0], numbers[-1]))
                self.assertIs(type(lead_bounds(one, other)), tuple)
            else:
                self.assertIs(judge_lead(one, other, paper_of(lead_bounds, one, other)), True)
                self.assertEqual(paper_of(lead_bounds, one, other)[0], word)
            self.assertEqual((one, other), (Standing(people), at(people, places)))

    def check_bounds(self, people, places, found):
        one, other = Standing(people), at(people, places)
        with self.subTest(people=people, places=places):
            self.assertEqual(all_bounds(one, other), found)
            self.assertIs(type(all_bounds(one, other)), list)
            self.assertEqual({type(row) for row in found}, {tuple})

    def test_examples(self):
        self.check(S, (2, 4, 4, 7), [2, 3], "leads")
        self.check(S, (1, 1, 2, 6), [4], "leads")
        self.check(S, (0, 0, 0, 5), [4], "leads")
        self.check(S, (5, 5, 5, 5), [5, 6, 7, 8, 9], "leads")
        self.check(S, (0, 3, 4, 8), [], "sum")
        self.check(S, (4, 4, 4, 4), [], "sum")
        self.check(E, (1, 2, 5), [], "clash")
        self.check(S, (0, 4, 3, 9), [], "order")
        self.check(S, (0, 3, 4, 10), [], "order")

    def test_bounds_of_the_examples(self):
        self.check_bounds(S, (2, 4, 4, 7), [("first", 0, None), ("last", 0, None), (0, 0, 1), (2, 0, 2)])
        self.check_bounds(S, (1, 1, 2, 6), [("first", 0, None), ("last", 2, None), (1, 3, 3), (2, 2, 3)])
        self.check_bounds(S, (5, 5, 5, 5), [("first", 0, None), ("last", -1, None), ("top", None, 4)])
        self.check_bounds(S, (0, 3, 4, 9), [("first", 0, None), ("last", 0, None), (0, 0, 0), (1, 0, 0), (2, 0, 0)])
        self.check_bounds(E, (1, 2, 5), [("first", 0, None), ("last", -1, None), (0, -1, 0), (1, -1, -1)])

    def test_bounds_with_even_voices(self):
        self.check_bounds(T, (1, 1, 2, 2), [("first", 0, None), ("last", None, 2), ("moved", 1, 1), (1, 1, 1)])
        self.check_bounds(T, (2, 2, 2, 2), [("first", 0, None), ("last", None, 1), ("moved", 0, 0)])
        # These clash, and are told all the same.
        self.check_bounds(T, (3, 3, 3, 3), [("first", 0, None), ("last", None, 1), ("moved", -1, -1)])
        self.check(T, (3, 3, 3, 3), [], "clash")

    def test_nobody(self):
        self.check([], (), [0], "leads")
        self.check_bounds([], (), [("first", 0, None), ("last", None, 0), ("moved", 0, 0)])
        self.assertEqual(lead_paper(Standing([]), Standing([])), ("leads", 0))
        for value in [("leads", 1), ("leads", -1), ("sum",), ("clash", "first", "last"), ("order", "a", "b")]:
            self.assertIs(judge_lead(Standing([]), Standing([]), value), False)

    def test_one_place(self):
        for voices in [(1, 0), (1, 1), (0, 0)]:
            people = [("a", 5, voices[0]), ("b", 5, voices[1])]
            self.check(people, (5, 5), [0], "leads")
            self.check(people, (5, 6), [], "order")
            self.check(people, (6, 5), [], "order")
            self.check(people, (6, 6), [], "sum" if sum(voices) == 1 else "clash")
        self.check_bounds([("a", 5, 1)], (5,), [("first", 0, None), ("last", 0, None), ("top", None, 0)])
        self.check_bounds([("a", 5, 0)], (5,), [("first", 0, None), ("last", None, 0), ("moved", 0, 0)])

    def test_from_a_standing_to_itself(self):
        for people in [S, T, E, S[::-1], [("a", 5, 0), ("b", FAR, 0)]]:
            self.check(people, [place for _, place, _ in people], [0], "leads")

    def test_like_call_by_call(self):
        lot = random.Random(1)
        words = []
        for _ in range(150):
            people = plain.random_people(lot, 6, 9)
            told = plain.numbers_from(people)
            rows = sorted(told) if len(told) < 40 else lot.sample(sorted(told), 40)
            for row in rows + [tuple(plain.near(lot, row)) for row in rows]:
                numbers = sorted(told.get(row, []))
                self.assertEqual(plain.lead_numbers(people, row), numbers)
                places = [place for _, place, _ in row]
                word = lead_paper(Standing(people), at(people, places))[0]
                words.append(word)
                self.check(people, places, numbers, word)
                if word in ("leads", "clash"):
                    self.check_bounds(people, places, plain.bounds(people, row))
                else:
                    paper = paper_of(all_bounds, Standing(people), at(people, places))
                    self.assertEqual(paper[0], word)
                    self.assertIs(judge_lead(Standing(people), at(people, places), paper), True)
        for word in ["leads", "order", "sum", "clash"]:
            self.assertGreater(words.count(word), 50)

    def test_all_near(self):
        lot = random.Random(2)
        for _ in range(25):
            people = plain.random_people(lot, 3, 5)
            told = plain.numbers_from(people)
            for other in all_near(people, 1) if people else []:
                numbers = told.get(tuple(other.people()))
                self.assertIs(leads(Standing(people), other), numbers is not None)
                if numbers is not None:
                    self.assertEqual(lead_bounds(Standing(people), other), (min(numbers), max(numbers)))

    def test_labels_in_order(self):
        lot = random.Random(3)
        for _ in range(100):
            people = plain.random_people(lot, 9, 30)
            for row in [people, plain.callers(people) and plain.called(people, plain.callers(people)[0]) or people]:
                labels = [label for label, _, _ in all_bounds(Standing(people), Standing(row))]
                odd = sum(voice for _, _, voice in people) % 2 == 1
                kept = [k for k, (_, steps) in enumerate(plain.kept_steps(people, row)) if steps > 0]
                self.assertEqual(labels, ["first", "last"] + ["moved"] * (not odd) + kept
                                 + ["top"] * (odd and not kept))

    def test_turned_and_shifted(self):
        lot = random.Random(4)
        for _ in range(100):
            people = plain.random_people(lot, 6, 9)
            row = lot.choice(sorted(plain.numbers_from(people)))
            one, other = Standing(people), Standing(list(row))
            numbers = lead_bounds(one, other)
            self.assertEqual(lead_bounds(turned_standing(one), turned_standing(other)), numbers)
            for by in [FAR, -FAR]:
                self.assertEqual(lead_bounds(shifted_standing(one, by), shifted_standing(other, by)), numbers)
                if people:
                    self.assertIs(leads(one, shifted_standing(other, by)), False)

    def test_great_gaps(self):
        people = [("a", -FAR, 1), ("b", 0, 1), ("c", FAR, 1)]
        self.assertEqual(lead_bounds(Standing(people), at(people, (0, 0, 0))), (FAR, 2 * FAR))
        self.assertEqual(lead_bounds(Standing(people), at(people, (-1, 0, 1))), (FAR - 1, 2 * FAR - 2))
        self.assertEqual(lead_bounds(Standing(people), at(people, (-1, -1, 0))), (FAR, 2 * FAR - 1))
        self.assertEqual(lead_bounds(Standing(people), at(people, (-FAR, 0, FAR))), (0, 0))
        self.assertIs(leads(Standing(people), at(people, (0, 0, 1))), False)
        self.assertIs(leads(Standing(people), at(people, (-FAR, 1 - FAR, 1 - FAR))), False)
        people = [("a", -FAR, 1), ("b", FAR, 1)]
        self.assertEqual(lead_bounds(Standing(people), at(people, (0, 1))), (2 * FAR - 1, 2 * FAR - 1))
        self.assertEqual(all_bounds(Standing(people), at(people, (0, 1))),
                         [("first", 0, None), ("last", None, 2 * FAR - 1), ("moved", FAR - 1, FAR - 1),
                          (0, 0, 2 * FAR - 1)])

    def test_meetings_and_ends(self):
        lot = random.Random(5)
        for _ in range(100):
            people = plain.random_people(lot, 8, 10 ** 30)
            one = Standing(people)
            if one.voices() % 2 == 1:
                other = at(people, [meeting_place(one)] * len(people))
                self.assertEqual(lead_bounds(one, other), call_numbers(one))
            elif people:
                other = at(people, [min(place for _, place, _ in people) + lot.randrange(10 ** 30)] * len(people))
                self.assertIs(leads(one, other), is_end(one, other))
                if leads(one, other):
                    self.assertEqual(lead_bounds(one, other), (left_calls(one), left_calls(one)))


class JudgeTest(unittest.TestCase):
    def check(self, people, places, right, wrong):
        one, other = Standing(people), at(people, places)
        for value in right:
            with self.subTest(places=places, value=value):
                self.assertIs(judge_lead(one, other, value), True)
                self.assertIs(judge_lead(one, other, list(value)), False)
                self.assertIs(judge_lead(one, other, value + (0,)), False)
                self.assertIs(judge_lead(one, other, value[1:]), False)
                self.assertIs(judge_lead(one, other, (value,)), False)
        for value in wrong:
            with self.subTest(places=places, value=value):
                self.assertIs(judge_lead(one, other, value), False)

    def check_anything(self, people, places):
        one, other = Standing(people), at(people, places)
        for value in anything():
            for paper in [value, ("leads", value), ("clash", value, value), ("clash", "first", value),
                          ("clash", value, "first"), ("order", value, value), ("order", people[0][0], value),
                          ("order", value, people[0][0]), ("sum", value), (value,), (value, 0), (value, "ann", "bob")]:
                if isinstance(paper, tuple) and (paper == ("leads", 0) or paper == ("leads", 1)):
                    continue
                with self.subTest(paper=paper):
                    self.assertIs(judge_lead(one, other, paper), False)

    def test_leads(self):
        self.check(S, (2, 4, 4, 7), [("leads", 0), ("leads", 1)],
                   [("leads", 2), ("leads", 3), ("leads", -1), ("leads",), ("lead", 0), ("sum",), ("Leads", 0),
                    ("clash", "first", "last"), ("clash", 0, 2), ("order", "ann", "bob"), ("leads", "0")])
        self.check(S, (1, 1, 2, 6), [("leads", 3)], [("leads", 2), ("leads", 4), ("clash", 1, 2)])
        self.check(T, (1, 1, 2, 2), [("leads", 1)], [("leads", 0), ("leads", 2), ("leads", True), ("clash", 1, 1)])

    def test_numbers_that_are_no_integers(self):
        one, other = Standing(S), at(S, (2, 4, 4, 7))
        for value in no_integers():
            self.assertIs(judge_lead(one, other, ("leads", value)), False)

    def test_order(self):
        self.check(S, (0, 4, 3, 9), [("order", "bob", "cid"), ("order", "ann", "bob"), ("order", "cid", "dan")],
                   [("order", "cid", "bob"), ("order", "bob", "ann"), ("order", "ann", "cid"), ("order", "ann", "dan"),
                    ("order", "ann", "eve"), ("order", "eve", "ann"), ("order", "bob", "bob"), ("sum",), ("leads", 0),
                    ("order", "bob"), ("clash", "first", "last")])

    def test_two_who_break_the_order_though_others_stand_between(self):
        # All are as far apart as they were, but for ann and dan, who are further apart than they were.
        self.check(S, (0, 3, 4, 10), [("order", "cid", "dan"), ("order", "bob", "dan"), ("order", "ann", "dan")],
                   [("order", "ann", "bob"), ("order", "bob", "cid"), ("order", "dan", "cid")])
        self.check(S, (7, 3, 4, 6), [("order", "ann", "bob"), ("order", "ann", "cid"), ("order", "ann", "dan")],
                   [("order", "bob", "cid"), ("order", "cid", "dan"), ("order", "bob", "ann")])

    def test_two_people_at_one_place(self):
        people = [("a", 0, 1), ("b", 5, 1), ("c", 5, 1), ("d", 9, 0)]
        self.check(people, (0, 5, 6, 9), [("order", "b", "c"), ("order", "c", "b"), ("order", "a", "c")],
                   [("order", "a", "b"), ("order", "b", "b"), ("order", "c", "c"), ("order", "c", "a"),
                    ("order", "c", "d")])
        self.check(people, (0, 5, 4, 8), [("order", "b", "c"), ("order", "c", "b")],
                   [("order", "a", "b"), ("order", "a", "c")])

    def test_sum(self):
        self.check(S, (0, 3, 4, 8), [("sum",)], [("leads", 0), ("clash", "first", "last"), ("sum", 0), ("sum", "sum"),
                                               ("order", "cid", "dan"), ("Sum",), ()])
        self.check(S, (4, 4, 4, 4), [("sum",)], [("clash", "first", "top")])

    def test_clash(self):
        self.check(E, (1, 2, 5), [("clash", "first", 1)],
                   [("clash", 1, "first"), ("clash", "first", 0), ("clash", "first", True), ("clash", "first", "last"),
                    ("clash", "last", 1), ("clash", 0, 1), ("clash", "first", "top"), ("clash", "first", "moved"),
                    ("clash", "first", 2), ("clash", "first", -1), ("clash", False, 1), ("sum",), ("leads", -1),
                    ("leads", 0), ("clash", "first"), ("clash", "first", "1"), ("Clash", "first", 1), ("", "first", 1),
                    (None, "first", 1), ("first", "first", 1), ("leads", "first", 1)])
        self.check(T, (3, 3, 3, 3), [("clash", "first", "moved")],
                   [("clash", "moved", "first"), ("clash", "first", "last"), ("clash", "moved", "last"),
                    ("clash", "moved", "moved"), ("clash", "first", "top"), ("clash", "first", 1)])
        self.check(T, (0, 0, 0, 0), [("clash", "moved", "last")], [("clash", "first", "last"), ("sum",)])

    def test_all_labels_like_the_plain_bounds(self):
        lot = random.Random(6)
        seen = 0
        for _ in range(200):
            people = plain.random_people(lot, 6, 9)
            row = plain.near(lot, lot.choice(sorted(plain.numbers_from(people))))
            one, other = Standing(people), Standing(row)
            paper = lead_paper(one, other)
            if paper[0] not in ("leads", "clash"):
                continue
            found = plain.bounds(people, row)
            for first in LABELS:
                for second in LABELS:
                    low = [least for label, least, _ in found if label == first and least is not None]
                    high = [most for label, _, most in found if label == second and most is not None]
                    told = bool(low and high and low[0] > high[0])
                    seen += told
                    self.assertIs(judge_lead(one, other, ("clash", first, second)), told)
            for calls in range(-12, 13):
                told = all((low is None or low <= calls) and (high is None or calls <= high) for _, low, high in found)
                self.assertIs(judge_lead(one, other, ("leads", calls)), told)
        self.assertGreater(seen, 20)

    def test_all_pairs_like_the_plain_order(self):
        lot = random.Random(7)
        for _ in range(150):
            people = plain.random_people(lot, 5, 6)
            row = plain.near(lot, lot.choice(sorted(plain.numbers_from(people))))
            goal = {name: place for name, place, _ in row}
            for name, place, _ in people:
                for second, further, _ in people:
                    told = place <= further and not 0 <= goal[second] - goal[name] <= further - place
                    self.assertIs(judge_lead(Standing(people), Standing(row), ("order", name, second)), told)

    def test_values_of_all_kinds(self):
        self.check_anything(S, (2, 4, 4, 7))
        self.check_anything(S, (0, 4, 3, 9))
        self.check_anything(S, (0, 3, 4, 8))
        self.check_anything(T, (3, 3, 3, 3))

    def test_members_that_are_lists_or_objects(self):
        one, other = Standing(S), at(S, (2, 4, 4, 7))
        for value in [["leads", 0], ("leads", [0]), (["leads"], 0), ("leads", (0,)), (("leads", 0),), {"leads": 0},
                      (one, 0), ("leads", one), (None, 0), ("leads", 0, None)]:
            self.assertIs(judge_lead(one, other, value), False)


class UnlikeTest(unittest.TestCase):
    def test_unlike_people_ahead_of_all_else(self):
        for people in [S, T, E]:
            for rows in unlike(people):
                for one, other in [(Standing(people), Standing(rows)), (Standing(rows), Standing(people))]:
                    for function in [leads, all_bounds, lead_bounds, lead_paper]:
                        with self.subTest(function=function.__name__, rows=rows):
                            with self.assertRaises(UnlikePeople):
                                function(one, other)
                    for value in [None, ("leads", 0), ("order", "ann", "bob"), 5, []]:
                        with self.assertRaises(UnlikePeople):
                            judge_lead(one, other, value)

    def test_nothing_is_shared(self):
        one, other = Standing(S), at(S, (2, 4, 4, 7))
        all_bounds(one, other).clear()
        self.assertEqual(len(all_bounds(one, other)), 4)


if __name__ == "__main__":
    unittest.main()
