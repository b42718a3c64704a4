import random
import unittest

import plain
from oddcrowds.calls import called
from oddcrowds.choosing import callers_barring, callers_on, fewest_callers, lost_by, most_callers
from oddcrowds.errors import BadCall, NoLead, UnknownName, UnlikePeople
from oddcrowds.leading import judge_lead, lead_bounds, leads
from oddcrowds.standings import Standing
from plain import S
from test_leading import E, unlike
from test_parting import T, at
from values import anything

FAR = 10 ** 30
LISTS = [callers_on, callers_barring, fewest_callers, most_callers]


class ChoosingTest(unittest.TestCase):
    def check(self, people, places, on, barring, lost):
        """Check callers, and for each one that leads on what is lost by its call."""
        one, other = Standing(people), at(people, places)
        with self.subTest(people=people, places=places):
            fewest = [name for name in on if lost[name][0] == 0]
            most = [name for name in on if lost[name][1] == 0]
            for function, told in zip(LISTS, [on, barring, fewest, most]):
                found = function(one, other)
                self.assertEqual(found, told)
                self.assertIs(type(found), list)
            for name in on:
                for own in one.at(one.place(name)):
                    self.assertEqual(lost_by(one, other, own), lost[name])
                    self.assertIs(type(lost_by(one, other, own)), tuple)
            for name in barring:
                for own in one.at(one.place(name)):
                    with self.assertRaises(NoLead) as caught:
                        lost_by(one, other, own)
                    self.assertIs(judge_lead(called(one, own), other, caught.exception.paper), True)
            self.assertEqual(one, Standing(people))

    def test_example(self):
        self.check(S, (2, 4, 4, 7), ["ann", "cid", "dan"], [], {"ann": (1, 0), "cid": (0, 0), "dan": (1, 0)})
        behind = [("ann", 1, 1), ("bob", 4, 0), ("cid", 4, 1), ("dan", 8, 1)]
        self.check(behind, (2, 4, 4, 7), ["ann", "bob", "dan"], [], {"ann": (1, 0), "bob": (0, 1), "dan": (1, 0)})
        self.check(S, (0, 0, 0, 5), ["ann"], ["cid", "dan"], {"ann": (0, 0)})
        self.assertEqual(lead_bounds(called(Standing(S), "cid"), at(S, (2, 4, 4, 7))), (1, 2))

    def test_the_goal_itself(self):
        self.check(S, (0, 3, 4, 9), [], ["ann", "cid", "dan"], {})
        self.check([], (), [], [], {})
        self.check([("a", 5, 1)], (5,), [], [], {})
        self.check([("a", 5, 0), ("b", 9, 0)], (5, 9), [], [], {})

    def test_even_voices_never_lose_anything(self):
        lot = random.Random(1)
        for _ in range(60):
            people = plain.with_voices(plain.random_people(lot, 6, 8), 0) if lot.randrange(9) else T
            row = lot.choice(sorted(plain.numbers_from(people))) if people[1:] else people
            for name in callers_on(Standing(people), Standing(list(row))):
                self.assertEqual(lost_by(Standing(people), Standing(list(row)), name), (0, 0))

    def test_like_call_by_call(self):
        lot = random.Random(2)
        for _ in range(120):
            people = plain.random_people(lot, 6, 8)
            told = plain.numbers_from(people)
            behind = {name: plain.numbers_from(plain.called(people, name)) for name in plain.callers(people)}
            for row in lot.sample(sorted(told), min(10, len(told))):
                on = [name for name in behind if row in behind[name]]
                barring = [name for name in behind if name not in on]
                lost = {name: (min(behind[name][row]) - (min(told[row]) - 1),
                               max(told[row]) - 1 - max(behind[name][row])) for name in on}
                self.check(people, [place for _, place, _ in row], on, barring, lost)
                if row != tuple(people):
                    self.assertTrue(on)
                    self.assertIn(0, [early for early, _ in lost.values()])
                    self.assertIn(0, [late for _, late in lost.values()])
                self.assertTrue(all(early >= 0 and late >= 0 for early, late in lost.values()))

    def test_sums_of_what_is_lost_on_a_way(self):
        lot = random.Random(3)
        for _ in range(100):
            people = plain.random_people(lot, 7, 12)
            start = now = Standing(people)
            goal = Standing(list(lot.choice(sorted(plain.numbers_from(people)))))
            early = late = calls = 0
            while callers_on(now, goal):
                name = lot.choice(callers_on(now, goal))
                lost = lost_by(now, goal, name)
                early, late, calls = early + lost[0], late + lost[1], calls + 1
                now = called(now, name)
            self.assertEqual(now, goal)
            least, most = lead_bounds(start, goal)
            self.assertEqual((early, late), (calls - least, most - calls))

    def test_fewest_and_most_ways(self):
        lot = random.Random(4)
        for _ in range(60):
            people = plain.random_people(lot, 7, 12)
            goal = Standing(list(lot.choice(sorted(plain.numbers_from(people)))))
            for function, k in [(fewest_callers, 0), (most_callers, 1)]:
                now, calls = Standing(people), 0
                while now != goal:
                    now = called(now, lot.choice(function(now, goal)))
                    calls += 1
                self.assertEqual(calls, lead_bounds(Standing(people), goal)[k])

    def test_great_gaps(self):
        people = [("a", -FAR, 1), ("b", 0, 1), ("c", FAR, 1)]
        self.check(people, (0, 0, 0), ["a", "b", "c"], [], {"a": (1, 0), "b": (0, 1), "c": (1, 0)})
        self.check(people, (-1, 0, 1), ["a", "b", "c"], [], {"a": (1, 0), "b": (0, 1), "c": (1, 0)})
        self.check(people, (-FAR, -FAR, 0), ["a"], ["b", "c"], {"a": (0, 0)})
        one = Standing([("p" + str(k), k * 10 ** 28, 1) for k in range(40)])
        goal = called(called(one, "p20"), "p30")
        self.assertEqual(callers_on(one, goal), ["p20", "p30"])
        self.assertEqual(len(callers_barring(one, goal)), 38)


class ErrorsTest(unittest.TestCase):
    def test_unlike_people_ahead_of_all_else(self):
        for people in [S, T, E]:
            for rows in unlike(people):
                for one, other in [(Standing(people), Standing(rows)), (Standing(rows), Standing(people))]:
                    for function in LISTS:
                        with self.assertRaises(UnlikePeople):
                            function(one, other)
                    for name in ["ann", "eve", "nobody", None, 5]:
                        with self.assertRaises(UnlikePeople):
                            lost_by(one, other, name)

    def test_no_lead_ahead_of_names(self):
        for people, places in [(S, (0, 3, 4, 8)), (S, (0, 4, 3, 9)), (E, (1, 2, 5)), (T, (3, 3, 3, 3))]:
            one, other = Standing(people), at(people, places)
            for function in LISTS:
                with self.assertRaises(NoLead) as caught:
                    function(one, other)
                self.assertIs(judge_lead(one, other, caught.exception.paper), True)
            for name in ["ann", "bob", "fay", "nobody", None, 5, True, []]:
                with self.assertRaises(NoLead) as caught:
                    lost_by(one, other, name)
                self.assertIs(judge_lead(one, other, caught.exception.paper), True)

    def test_nobodys_names(self):
        for places in [(2, 4, 4, 7), (0, 0, 0, 5), (0, 3, 4, 9)]:
            for name in anything() + ["eve", "an", "anna"]:
                with self.subTest(name=name):
                    with self.assertRaises(UnknownName) as caught:
                        lost_by(Standing(S), at(S, places), name)
                    self.assertIs(caught.exception.name, name)
        with self.assertRaises(UnknownName):
            lost_by(Standing([]), Standing([]), "ann")

    def test_crowds_that_cannot_call(self):
        people = [("a", 5, 1), ("b", 5, 1), ("c", 9, 1)]
        for rows, places, name in [(S, (2, 4, 4, 7), "bob"), (S, (0, 3, 4, 9), "bob"), ([("a", 5, 1)], (5,), "a"),
                                   (people, (6, 6, 9), "a"), (people, (6, 6, 9), "b")]:
            with self.subTest(people=rows, name=name):
                with self.assertRaises(BadCall) as caught:
                    lost_by(Standing(rows), at(rows, places), name)
                self.assertEqual(caught.exception.number, 0)

    def test_calls_that_do_not_lead_on(self):
        for people, places, name in [(S, (0, 0, 0, 5), "cid"), (S, (0, 0, 0, 5), "dan"), (S, (0, 3, 4, 9), "ann")]:
            one, other = Standing(people), at(people, places)
            self.assertIs(leads(called(one, name), other), False)
            with self.assertRaises(NoLead) as caught:
                lost_by(one, other, name)
            self.assertIs(judge_lead(called(one, name), other, caught.exception.paper), True)

    def test_nothing_is_shared(self):
        for function in LISTS:
            one, other = Standing(S), at(S, (2, 4, 4, 7))
            found = function(one, other)
            function(one, other).append("x")
            self.assertEqual(function(one, other), found)


if __name__ == "__main__":
    unittest.main()
