import random
import unittest

import plain
import plainways
from oddcrowds.choosing import lost_by
from oddcrowds.errors import NoLead, UnlikePeople
from oddcrowds.goals import left_to, wastes
from oddcrowds.leading import judge_lead, lead_bounds
from oddcrowds.standings import Standing
from plain import S
from test_histories import GOAL
from test_leading import E, unlike
from test_parting import T, at


def paper_of(function, *values):
    """The paper of the NoLead that a function raises, or None."""
    try:
        function(*values)
    except NoLead as error:
        return error.paper
    return None


class LeftToTest(unittest.TestCase):
    def test_example(self):
        self.assertEqual(left_to(Standing(S), at(S, GOAL)), (2, 3))
        self.assertEqual(left_to(Standing(S), Standing(S)), (0, 0))
        self.assertIs(type(left_to(Standing(S), at(S, GOAL))), tuple)

    def test_call_by_call(self):
        lot = random.Random(1)
        for _ in range(60):
            people = plainways.lively_people(lot, 6, 7)
            told = plain.numbers_from(people)
            row = lot.choice(sorted(told))
            self.assertEqual(left_to(Standing(people), Standing(list(row))), (min(told[row]), max(told[row])))

    def test_errors(self):
        for people, places in [(S, (0, 3, 4, 8)), (S, (0, 4, 3, 9)), (E, (1, 2, 5))]:
            paper = paper_of(left_to, Standing(people), at(people, places))
            self.assertIs(judge_lead(Standing(people), at(people, places), paper), True)
        for rows in unlike(S):
            with self.assertRaises(UnlikePeople):
                left_to(Standing(S), Standing(rows))


class WastesTest(unittest.TestCase):
    def test_example(self):
        start, goal = Standing(S), at(S, GOAL)
        self.assertEqual(wastes(start, 0, start, goal), (0, 0))
        self.assertEqual(wastes(start, 1, at(S, (0, 2, 3, 8)), goal), (1, 0))
        self.assertEqual(wastes(start, 1, at(S, (1, 4, 4, 8)), goal), (0, 0))
        self.assertEqual(wastes(start, 2, goal, goal), (0, 1))
        self.assertEqual(wastes(start, 3, goal, goal), (1, 0))
        self.assertIs(type(wastes(start, 3, goal, goal)), tuple)

    def test_sums_of_what_is_lost(self):
        lot = random.Random(2)
        for _ in range(100):
            people = plainways.lively_people(lot, 6, 8)
            told = plain.numbers_from(people)
            start, goal = Standing(people), Standing(list(lot.choice(sorted(told))))
            now, calls, lost = people, 0, (0, 0)
            while True:
                self.assertEqual(wastes(start, calls, Standing(now), goal), lost)
                on = [name for name in plain.callers(now) if plain.lead_numbers(plain.called(now, name), goal.people())]
                if not on:
                    break
                name = lot.choice(on)
                early, late = lost_by(Standing(now), goal, name)
                now, calls, lost = plain.called(now, name), calls + 1, (lost[0] + early, lost[1] + late)
            self.assertEqual(Standing(now), goal)

    def test_even_voices(self):
        start, goal = Standing(T), at(T, (1, 1, 1, 1))
        self.assertEqual(lead_bounds(start, goal), (2, 2))
        self.assertEqual(wastes(start, 1, at(T, (1, 1, 1, 2)), goal), (0, 0))
        self.assertEqual(wastes(start, 2, goal, goal), (0, 0))

    def test_unlike_people_ahead_of_all_else(self):
        one, goal, none = Standing(S), at(S, GOAL), at(S, (0, 3, 4, 8))
        for rows in unlike(S):
            other = Standing(rows)
            for values in [(other, 0, one, goal), (one, 0, other, goal), (one, 0, one, other), (other, 0, one, none),
                           (one, 0, other, none), (none, 0, none, other), (other, 0, other, goal), (one, 0, other, other),
                           (other, 0, one, other)]:
                with self.assertRaises(UnlikePeople):
                    wastes(*values)

    def test_no_lead(self):
        start, goal, none = Standing(S), at(S, GOAL), at(S, (0, 3, 4, 8))
        self.assertIs(judge_lead(start, none, paper_of(wastes, start, 0, start, none)), True)
        behind = at(S, (1, 4, 5, 9))
        self.assertIs(judge_lead(goal, start, paper_of(wastes, start, 0, goal, start)), True)
        far = at(S, (0, 1, 2, 7))
        paper = paper_of(wastes, start, 2, far, goal)
        self.assertIs(judge_lead(far, goal, paper), True)
        self.assertEqual(paper_of(wastes, start, 1, behind, goal), None)

    def test_no_lead_from_the_start_counts_first(self):
        # From the start the order is kept and the sums do not fit; from the present standing the order is broken.
        start, now, goal = Standing(S), at(S, (5, 5, 5, 5)), at(S, (0, 3, 4, 8))
        self.assertEqual(paper_of(wastes, start, 5, now, goal), ("sum",))
        self.assertEqual(paper_of(left_to, now, goal)[0], "order")


if __name__ == "__main__":
    unittest.main()
