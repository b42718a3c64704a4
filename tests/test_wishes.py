import itertools
import random
import unittest

import plain
import plainways
from oddcrowds.errors import EvenVoices
from oddcrowds.meeting import meeting_place
from oddcrowds.standings import Standing
from oddcrowds.sums import turn_sum
from oddcrowds.wishes import judge_wish, places_by_voices, wished_steps, wished_voices
from plain import S
from test_parting import ODD, T
from values import anything, no_integers

FAR = 10 ** 30
EVEN = [[], T, [("a", 0, 0)], [("a", 0, 1), ("b", 5, 1)]]


class StepsTest(unittest.TestCase):
    def check(self, people, place, cost):
        standing = Standing(people)
        with self.subTest(people=people, place=place):
            paper = wished_steps(standing, place)
            self.assertIs(type(paper), tuple)
            self.assertEqual(paper[0], "steps")
            self.assertIs(type(paper[1]), tuple)
            self.assertIsNone(judge_wish(standing, place, paper))
            self.assertEqual(sum(abs(by) for _, by in paper[1]), cost)
            self.assertEqual(wished_steps(standing, place), paper)
            if cost == 0:
                self.assertEqual(paper, ("steps", ()))

    def test_example(self):
        self.check(S, 7, 2)
        self.check(S, 5, 0)
        self.assertEqual(wished_steps(Standing(S), 7), ("steps", (("dan", 2),)))
        self.assertEqual(wished_steps(Standing(S), 4), ("steps", (("ann", -1),)))

    def test_against_all_changes(self):
        lot = random.Random(1)
        for _ in range(25):
            people = plain.with_voices(plain.random_people(lot, 4, 5), 1)
            costs = plainways.costs_of_steps(people, 3)
            here = plainways.meets(people)
            for by in range(-3, 4):
                self.assertEqual(costs[here + by], abs(by))
                self.check(people, here + by, abs(by))

    def test_far_places(self):
        lot = random.Random(2)
        for people in ODD:
            here = meeting_place(Standing(people))
            for place in [FAR, -FAR, here, 0, 1, -1, lot.randrange(FAR)]:
                self.check(people, place, abs(place - here))
        people = [("p" + str(k), lot.randrange(-FAR, FAR), 1 if k else 0) for k in range(40)]
        for place in [FAR, -FAR, 0]:
            self.check(people, place, abs(place - meeting_place(Standing(people))))

    def test_people_without_a_voice_at_the_ends(self):
        people = [("a", 0, 0), ("b", 3, 1), ("c", 3, 1), ("d", 7, 1), ("e", 9, 0)]
        for place in range(-5, 15):
            self.check(people, place, abs(place - 7))

    def test_even_voices(self):
        for people in EVEN:
            for place in [0, 5, FAR]:
                with self.assertRaises(EvenVoices):
                    wished_steps(Standing(people), place)


class VoicesTest(unittest.TestCase):
    def check(self, people, place, cost):
        standing = Standing(people)
        with self.subTest(people=people, place=place):
            paper = wished_voices(standing, place)
            if cost is None:
                self.assertIsNone(paper)
                return
            self.assertIs(type(paper), tuple)
            self.assertEqual(paper[0], "voices")
            self.assertIs(type(paper[1]), tuple)
            self.assertEqual(len(paper[1]), cost)
            self.assertIsNone(judge_wish(standing, place, paper))
            self.assertEqual(wished_voices(standing, place), paper)

    def check_all(self, people):
        costs = plainways.costs_of_voices(people)
        self.assertEqual(places_by_voices(Standing(people)), sorted(costs))
        for place in range(min(costs, default=0) - 2, max(costs, default=0) + 3):
            self.check(people, place, costs.get(place))

    def test_example(self):
        costs = plainways.costs_of_voices(S)
        self.assertEqual(sorted(place for place in costs if costs[place] <= 2), [0, 1, 4, 5, 6, 8, 9])
        self.assertEqual(places_by_voices(Standing(S)), [0, 1, 3, 4, 5, 6, 8, 9])
        self.check_all(S)
        self.check(S, 3, 4)
        self.check(S, 7, None)
        self.check(S, 5, 0)
        self.check(S, 6, 2)
        self.assertEqual(set(wished_voices(Standing(S), 8)[1]), {"ann", "bob"})
        self.assertEqual(set(wished_voices(Standing(S), 3)[1]), {"ann", "bob", "cid", "dan"})

    def test_against_all_changes(self):
        lot = random.Random(3)
        for _ in range(150):
            self.check_all(plain.random_people(lot, 7, 12))

    def test_nobody(self):
        self.assertEqual(places_by_voices(Standing([])), [])
        for place in [0, 1, -5]:
            self.check([], place, None)

    def test_even_voices_are_changed_to_odd_ones(self):
        for people in EVEN[1:]:
            self.check_all(people)
        self.check([("a", 0, 0)], 0, 1)
        self.check([("a", 0, 0)], 1, None)
        self.check([("a", 0, 1), ("b", 5, 1)], 5, 1)

    def test_twelve_people_far_apart(self):
        lot = random.Random(4)
        for _ in range(4):
            people = [("p" + str(k), lot.randrange(-1000, 1001), lot.randrange(2)) for k in range(12)]
            costs = plainways_costs(people)
            self.assertEqual(places_by_voices(Standing(people)), sorted(costs))
            for place in lot.sample(sorted(costs), 40) + [-1000, 1000, 0, 2500]:
                self.check(people, place, costs.get(place))

    def test_nothing_is_shared(self):
        places_by_voices(Standing(S)).clear()
        self.assertEqual(len(places_by_voices(Standing(S))), 8)


def plainways_costs(people):
    """As plainways.costs_of_voices, by the sums by turns."""
    rows = sorted(people, key=lambda person: person[1])
    found = {}
    for changes in itertools.product((0, 1), repeat=len(rows)):
        places = [place for (_, place, voice), other in zip(rows, changes) if voice ^ other]
        if len(places) % 2 == 1:
            place = sum(places[::2]) - sum(places[1::2])
            found[place] = min(found.get(place, len(rows)), sum(changes))
    return found


class JudgeWishTest(unittest.TestCase):
    def check(self, people, place, value, told):
        with self.subTest(people=people, place=place, value=value):
            self.assertEqual(judge_wish(Standing(people), place, value), told)

    def test_right_ones_of_whatever_cost(self):
        self.check(S, 7, ("steps", (("dan", 2),)), None)
        self.check(S, 7, ("steps", (("dan", 1), ("ann", 1))), None)
        self.check(S, 7, ("steps", (("bob", 10 ** 39), ("ann", 2))), None)
        self.check(S, 5, ("steps", ()), None)
        self.check(S, 5, ("steps", (("bob", -7),)), None)
        self.check(S, 5, ("voices", ()), None)
        self.check(S, 8, ("voices", ("ann", "bob")), None)
        self.check(S, 8, ("voices", ("bob", "ann")), None)
        # Two who pass each other.
        self.check(S, 1, ("steps", (("ann", 9), ("cid", -3))), None)

    def test_form(self):
        steps = (("dan", 2),)
        values = [("steps",), ("voices",), (), ("steps", steps, 1), ["steps", steps], ("steps", list(steps)), ("step", steps),
                  ("steps", None), ("voices", None), ("voices", ["ann"]), ("voices", "ann"), ("steps", (("dan",),)),
                  ("steps", (["dan", 2],)), ("steps", (("dan", 2, 1),)), ("steps", (("dan", 0),)),
                  ("steps", (("dan", True),)), ("steps", ("dan",)), ("steps", ("da",)), (["steps"], ()), (None, ()),
                  ("steps", (("eve", 0),)), ("steps", (("eve", 1), ("dan", 0)))]
        for value in anything() + values + [("steps", (("dan", by),)) for by in no_integers()]:
            self.check(S, 5, value, ("form",))

    def test_name(self):
        for name in anything() + ["eve", ["ann"], ("ann",)]:
            self.check(S, 5, ("steps", ((name, 1),)), ("name", 0))
            self.check(S, 5, ("steps", (("ann", 1), ("bob", 1), (name, 1), ("eve", 1))), ("name", 2))
            self.check(S, 5, ("voices", (name,)), ("name", 0))
            self.check(S, 5, ("voices", ("ann", "bob", name, "eve")), ("name", 2))
        self.check(S, 5, ("steps", (("ann", 1), ("bob", 1), ("ann", -1))), ("name", 2))
        self.check(S, 5, ("voices", ("ann", "bob", "bob", "eve")), ("name", 2))
        self.check([], 5, ("voices", ("ann",)), ("name", 0))

    def test_even(self):
        self.check(S, 5, ("voices", ("cid",)), ("even",))
        self.check(S, 5, ("voices", ("ann", "bob", "cid")), ("even",))
        for people in EVEN:
            self.check(people, 0, ("steps", ()), ("even",))
            self.check(people, 0, ("voices", ()), ("even",))
        self.check(T, 0, ("steps", (("ann", 1),)), ("even",))

    def test_place(self):
        self.check(S, 6, ("steps", ()), ("place", 5))
        self.check(S, 5, ("steps", (("dan", 2),)), ("place", 7))
        self.check(S, 5, ("voices", ("ann", "cid")), ("place", 9))
        self.check(S, FAR, ("voices", ()), ("place", 5))

    def test_the_first_answer_where_several_would_do(self):
        self.check(S, 9, ("steps", (("eve", 1), ("dan", 0))), ("form",))
        self.check(S, 9, ("voices", ("eve", "cid")), ("name", 0))
        self.check(S, 9, ("voices", ("cid", "cid")), ("name", 1))
        self.check(T, 9, ("steps", (("eve", 1),)), ("name", 0))
        self.check(T, 9, ("voices", ("ann", "bob")), ("even",))

    def test_random_papers(self):
        lot = random.Random(5)
        for _ in range(500):
            people = plain.random_people(lot, 6, 9) or S
            names = [name for name, _, _ in people]
            chosen = lot.sample(names, lot.randrange(len(names) + 1))
            rows = tuple((name, lot.choice([-3, -2, -1, 1, 2, 3])) for name in chosen)
            by = dict(rows)
            for value, behind in [(("steps", rows), [(name, at + by.get(name, 0), voice) for name, at, voice in people]),
                                  (("voices", tuple(chosen)), [(name, at, voice ^ (name in chosen))
                                                               for name, at, voice in people])]:
                place = lot.randrange(-5, 12)
                reached = plainways.meets(behind)
                told = ("even",) if reached is None else None if reached == place else ("place", reached)
                self.check(people, place, value, told)
                if reached is not None:
                    self.check(people, reached, value, None)
                    self.assertEqual(turn_sum(Standing(behind)), reached)


if __name__ == "__main__":
    unittest.main()
