import copy
import random
import unittest

import plain
import plainways
from oddcrowds.allloud import can_meet_free, free_numbers_at, free_paper
from oddcrowds.errors import BadCall, NoLead
from oddcrowds.freescripts import free_script, free_walked, judge_free
from oddcrowds.scripts import calls_of
from oddcrowds.standings import Standing
from plain import S
from test_allloud import FAR, somebody
from values import anything, no_integers

EXAMPLE = [("cid", 4), ("cid", 1)]


def bad_of(standing, script):
    """The number of the BadCall that free_walked raises, or None."""
    try:
        free_walked(standing, script)
    except BadCall as error:
        return error.number
    return None


def stood_at(widths):
    """Nobody has a voice here, and the gaps have these widths."""
    return Standing([("p" + str(k), sum(widths[:k]), 0) for k in range(len(widths) + 1)])


class FreeWalkedTest(unittest.TestCase):
    def test_example(self):
        self.assertEqual(free_walked(Standing(S), [("cid", 4)]).people(), plain.behind_row(S, "cid", 4))
        self.assertEqual(free_walked(Standing(S), EXAMPLE).places(), [4])
        self.assertEqual(free_walked(Standing(S), tuple(EXAMPLE)).places(), [4])
        self.assertEqual(free_walked(Standing(S), [("bob", 2), ("ann", 1)]).places(), [2, 6])

    def test_no_rows(self):
        for people in [S, [("a", 5, 0)]]:
            self.assertEqual(free_walked(Standing(people), []), Standing(people))
            self.assertEqual(free_walked(Standing(people), ()), Standing(people))

    def test_like_call_by_call(self):
        lot = random.Random(1)
        for _ in range(300):
            people = now = somebody(lot, 6, 9)
            script = []
            for _ in range(lot.randrange(6)):
                row = (lot.choice(people)[0], lot.randrange(1, 5))
                script.append(row)
                now = plainways.free_behind_row(now, *row)
                if now is None:
                    break
            with self.subTest(people=people, script=script):
                if now is None:
                    self.assertEqual(bad_of(Standing(people), script), len(script) - 1)
                else:
                    self.assertEqual(free_walked(Standing(people), script).people(), now)

    def test_great_times(self):
        people = [("a", -FAR, 0), ("b", 0, 0), ("c", FAR - 1, 0), ("d", FAR, 0)]
        self.assertEqual(free_walked(Standing(people), [("b", FAR - 1)]).places(), [-1, 0, 1])
        self.assertEqual(free_walked(Standing(people), [("b", FAR)]).places(), [0])
        self.assertEqual(bad_of(Standing(people), [("b", FAR + 1)]), 0)
        self.assertEqual(bad_of(Standing(people), [("b", FAR), ("c", 1)]), 1)
        self.assertEqual(free_walked(Standing(people), [("d", FAR), ("a", FAR)]).places(), [0])

    def test_members_that_are_no_rows(self):
        wrong = anything() + [("eve", 1), ("ann", 0), ("ann", -1), ("ann", True), ("ann", None), ("ann",), ("ann", 1, 1),
                              ["ann", 1], (1, "ann"), ("ann", "1"), ([], 1), ({}, 1), ("ann", 10), ("bob", 10 ** 39)]
        for member in wrong:
            with self.subTest(member=member):
                self.assertEqual(bad_of(Standing(S), [member]), 0)
                self.assertEqual(bad_of(Standing(S), [("cid", 1), ("bob", 1), member, member]), 2)
                self.assertEqual(bad_of(Standing(S), [("cid", 1), member, ("cid", 1)]), 1)

    def test_no_calls_when_all_are_together(self):
        self.assertEqual(bad_of(Standing(S), EXAMPLE + [("ann", 1)]), 2)
        self.assertEqual(bad_of(Standing([("a", 5, 1)]), [("a", 1)]), 0)


class FreeScriptTest(unittest.TestCase):
    def check(self, standing, place, calls, most_rows):
        with self.subTest(people=standing.people(), place=place, calls=calls):
            script = free_script(standing, place, calls)
            self.assertIs(type(script), list)
            self.assertTrue(all(type(row) is tuple for row in script))
            self.assertLessEqual(len(script), most_rows)
            self.assertEqual(calls_of(script), calls)
            self.assertEqual(free_walked(standing, script).places(), [place])
            self.assertIsNone(judge_free(standing, place, calls, script))
            self.assertEqual(free_script(standing, place, calls), script)
            return script

    def check_all(self, standing, most_rows):
        """Check the fewest, the most and some other numbers at some places."""
        places = standing.places()
        middle = (places[0] + places[-1]) // 2
        for place in [places[0], places[-1], middle, (places[0] + middle) // 2, places[0] + 1] + places[1::9]:
            fewest, most = free_numbers_at(standing, place)
            for calls in {fewest, most, (fewest + most) // 2, min(fewest + 1, most)}:
                self.check(standing, place, calls, most_rows)

    def test_example(self):
        script = self.check(Standing(S), 4, 5, 400)
        self.assertEqual(plainways.free_behind_row(S, "cid", 4), [("ann", 4, 1), ("bob", 4, 0), ("cid", 4, 1), ("dan", 5, 1)])
        self.assertIsNone(judge_free(Standing(S), 4, 5, EXAMPLE))
        self.assertEqual(calls_of(script), 5)

    def test_together(self):
        self.assertEqual(free_script(Standing([("a", 5, 0), ("b", 5, 1)]), 5, 0), [])

    def test_all_small_ones(self):
        lot = random.Random(2)
        for _ in range(60):
            people = somebody(lot, 6, 9)
            standing = Standing(people)
            places = standing.places()
            for place in range(places[0] - 1, places[-1] + 2):
                for calls in range(-1, places[-1] - places[0] + 2):
                    if can_meet_free(standing, place, calls):
                        self.check(standing, place, calls, 12)
                    else:
                        with self.assertRaises(NoLead) as caught:
                            free_script(standing, place, calls)
                        self.assertEqual(caught.exception.paper, free_paper(standing, place, calls))

    def test_forty_people(self):
        lot = random.Random(3)
        for _ in range(4):
            self.check_all(stood_at([lot.randrange(1, 10 ** 29) for _ in range(39)]), 400)

    def test_forty_people_with_like_gaps(self):
        self.check_all(stood_at([10 ** 28] * 39), 400)
        self.check_all(stood_at([1] * 39), 400)

    def test_forty_people_with_one_gap_as_wide_as_all_others(self):
        lot = random.Random(4)
        for at in [0, 7, 19, 38]:
            widths = [lot.randrange(1, 10 ** 28) for _ in range(38)]
            self.check_all(stood_at(widths[:at] + [sum(widths)] + widths[at:]), 400)
            self.check_all(stood_at(widths[:at] + [sum(widths) - 1] + widths[at:]), 400)

    def test_two_widest_gaps(self):
        for widths in [[10 ** 29, 1, 10 ** 29], [5, 10 ** 29, 10 ** 29, 7], [10 ** 29, 10 ** 29], [3, 3, 1, 1, 1, 3]]:
            self.check_all(stood_at(widths), 20)

    def test_places_beside_and_values_that_are_no_integers(self):
        for place, calls in [(-1, 9), (10, 9), (4, 4), (4, 10), (1, 7)]:
            with self.assertRaises(NoLead) as caught:
                free_script(Standing(S), place, calls)
            self.assertEqual(caught.exception.paper, free_paper(Standing(S), place, calls))
        for value in no_integers():
            for place, calls in [(value, 5), (4, value)]:
                with self.assertRaises(NoLead) as caught:
                    free_script(Standing(S), place, calls)
                self.assertEqual(caught.exception.paper, ("many",))

    def test_nothing_is_shared(self):
        free_script(Standing(S), 4, 5).clear()
        self.assertNotEqual(free_script(Standing(S), 4, 5), [])


class JudgeFreeTest(unittest.TestCase):
    def check(self, place, calls, value, told):
        with self.subTest(place=place, calls=calls, value=value):
            kept = copy.deepcopy(value) if isinstance(value, list) else value
            self.assertEqual(judge_free(Standing(S), place, calls, value), told)
            if isinstance(value, list):
                self.assertEqual(judge_free(Standing(S), place, calls, tuple(value)), told)
                self.assertEqual(value, kept)

    def test_right_ones(self):
        self.check(4, 5, EXAMPLE, None)
        self.check(0, 9, [("ann", 1)] * 9, None)
        self.check(9, 9, [("dan", 9)], None)

    def test_each_answer(self):
        for value in anything():
            if not isinstance(value, (list, tuple)):
                self.check(4, 5, value, ("form",))
        self.check(4, 5, [("cid", 4), ("cid", 2)], ("row", 1))
        self.check(4, 5, [("cid", 4), ["cid", 1]], ("row", 1))
        self.check(4, 5, [("cid", 4)], ("apart",))
        self.check(4, 5, [], ("apart",))
        self.check(5, 5, EXAMPLE, ("place", 4))
        self.check(4, 6, EXAMPLE, ("calls", 5))

    def test_the_first_answer_where_several_would_do(self):
        self.check(7, 9, [("eve", 1)], ("row", 0))
        self.check(7, 9, [("cid", 4)], ("apart",))
        self.check(7, 9, EXAMPLE, ("place", 4))

    def test_place_and_calls_that_are_no_integers(self):
        for value in no_integers():
            self.check(value, 5, EXAMPLE, ("place", 4))
            self.check(4, value, EXAMPLE, ("calls", 5))
        near = Standing([("a", 0, 1), ("b", 1, 1)])
        self.assertEqual(judge_free(near, True, 1, [("b", 1)]), ("place", 1))
        self.assertEqual(judge_free(near, 1, True, [("b", 1)]), ("calls", 1))
        self.assertIsNone(judge_free(near, 1, 1, [("b", 1)]))

    def test_together(self):
        standing = Standing([("a", 5, 1)])
        self.assertIsNone(judge_free(standing, 5, 0, []))
        self.assertEqual(judge_free(standing, 6, 0, []), ("place", 5))
        self.assertEqual(judge_free(standing, 5, False, ()), ("calls", 0))
        self.assertEqual(judge_free(standing, 5, 1, [("a", 1)]), ("row", 0))

    def test_more_rows_than_free_script_gives(self):
        standing = Standing([("a", 0, 0), ("b", 400, 0)])
        self.assertIsNone(judge_free(standing, 0, 400, [("a", 1)] * 400))


if __name__ == "__main__":
    unittest.main()
