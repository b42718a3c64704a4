import random
import unittest

import plain
from oddcrowds.errors import BadCall, BadNumber, NoLead, UnlikePeople
from oddcrowds.leading import judge_lead, lead_bounds
from oddcrowds.leadscripts import is_tidy, judge_script, lead_script, tidy_script
from oddcrowds.parting import end_of_width, widths
from oddcrowds.scripts import calls_of, standings_along, walked
from oddcrowds.standings import Standing
from plain import S
from test_leading import E, unlike
from test_parting import T, at
from values import anything, no_integers

FAR = 10 ** 30

FIRST, BETWEEN, LAST = 0, 1, 2


def positions(people, row):
    """Of which crowd each call of a row is, one by one."""
    found = []
    for _ in range(row[1]):
        found.append(plain.position(people, row[0]))
        people = plain.called(people, row[0])
    return found


def plain_tidy(people, script):
    """Whether a script that can be done is tidy, by its calls one by one."""
    stage = BETWEEN
    order = {BETWEEN: 0, FIRST: 1, LAST: 2}
    for row in script:
        found = set(positions(people, row))
        if len(found) != 1:
            return False
        now = found.pop()
        if order[now] < order[stage] or now == stage and now != BETWEEN:
            return False
        stage = now
        people = plain.behind_row(people, *row)
    return True


def random_script(lot, people, rows):
    """Rows of calls that can be made from people on."""
    found = []
    for _ in range(rows):
        if not plain.callers(people):
            break
        name = lot.choice(plain.callers(people))
        times = 1
        while lot.randrange(3) and plain.behind_row(people, name, times + 1) is not None:
            times += 1
        found.append((name, times))
        people = plain.behind_row(people, name, times)
    return found


class LeadScriptTest(unittest.TestCase):
    def check(self, one, other, calls):
        with self.subTest(one=one.people(), other=other.people(), calls=calls):
            script = lead_script(one, other, calls)
            self.assertIs(type(script), list)
            self.assertTrue(all(type(row) is tuple for row in script))
            self.assertEqual(calls_of(script), calls)
            self.assertLessEqual(len(script), 200)
            self.assertEqual(walked(one, script), other)
            self.assertIsNone(judge_script(one, other, script))
            self.assertIs(is_tidy(one, script), True)
            self.assertEqual(lead_script(one, other, calls), script)
            return script

    def check_all(self, one, other):
        least, most = lead_bounds(one, other)
        for calls in range(least, most + 1) if most - least < 20 else [least, (least + most) // 2, most]:
            self.check(one, other, calls)

    def test_examples(self):
        self.check_all(Standing(S), at(S, (2, 4, 4, 7)))
        self.check_all(Standing(S), at(S, (1, 1, 2, 6)))
        self.check_all(Standing(S), at(S, (5, 5, 5, 5)))
        self.check_all(Standing(T), at(T, (1, 1, 2, 2)))
        self.assertEqual(walked(Standing(S), [("cid", 2)]), at(S, (2, 4, 4, 7)))
        self.assertEqual(walked(Standing(S), [("ann", 1), ("dan", 1), ("cid", 1)]), at(S, (2, 4, 4, 7)))
        self.assertEqual(walked(Standing(S), [("ann", 3), ("dan", 1)]), at(S, (1, 1, 2, 6)))

    def test_to_itself(self):
        for people in [[], [("a", 5, 1)], [("a", 5, 0)], S, T, E]:
            self.assertEqual(lead_script(Standing(people), Standing(people), 0), [])

    def test_each_number_that_there_is(self):
        lot = random.Random(1)
        for _ in range(100):
            people = plain.random_people(lot, 6, 9)
            told = plain.numbers_from(people)
            for row in lot.sample(sorted(told), min(20, len(told))):
                for calls in told[row]:
                    script = self.check(Standing(people), Standing(list(row)), calls)
                    now = people
                    for name, times in script:
                        now = plain.behind_row(now, name, times)
                    self.assertEqual(now, list(row))
                    self.assertTrue(plain_tidy(people, script))

    def test_great_gaps(self):
        lot = random.Random(2)
        for k in range(60):
            wide = 10 ** 28 if k % 3 else 4
            rows = [("p" + str(k), k * wide + lot.randrange(wide), lot.randrange(2)) for k in range(40)]
            people = plain.with_voices(lot.sample(rows, 40), k % 2)
            one = now = Standing(people)
            for _ in range(lot.randrange(1, 30)):
                names = plain.callers(now.people())
                if names:
                    name = lot.choice(names)
                    now = walked(now, [(name, 1 + lot.randrange(self.most(now, name)))])
            self.check_all(one, now)

    def most(self, standing, name):
        """So many times a crowd can call at least."""
        place = standing.place(name)
        return min(abs(other - place) for other in standing.places() if other != place)

    def test_forty_people_to_ends(self):
        lot = random.Random(3)
        for voices in [[1] * 40, [1, 0] * 20, [1, 1, 0, 0] * 10, [1] + [0] * 38 + [1], [0, 1, 1, 0] * 10]:
            rows = [("p" + str(k), k * 10 ** 28 + k ** 3, voice) for k, voice in enumerate(voices)]
            one = Standing(lot.sample(rows, 40))
            for width in [widths(one)[0], sum(widths(one)) // 2, widths(one)[1]]:
                self.check_all(one, end_of_width(one, width))

    def test_nothing_is_shared(self):
        one, other = Standing(S), at(S, (2, 4, 4, 7))
        lead_script(one, other, 3).clear()
        self.check(one, other, 3)


class LeadErrorsTest(unittest.TestCase):
    def test_numbers_that_there_are_not(self):
        for people, places, least, most in [(S, (2, 4, 4, 7), 2, 3), (S, (0, 3, 4, 9), 0, 0), (S, (1, 1, 2, 6), 4, 4),
                                            (T, (2, 2, 2, 2), 2, 2), ([], (), 0, 0)]:
            beside = [least - 1, most + 1, most + FAR, -FAR]
            for value in beside + no_integers() + [[least], (least,), str(least)]:
                with self.subTest(people=people, places=places, value=value):
                    with self.assertRaises(BadNumber) as caught:
                        lead_script(Standing(people), at(people, places), value)
                    self.assertEqual((caught.exception.least, caught.exception.most), (least, most))

    def test_no_lead_ahead_of_bad_numbers(self):
        for people, places in [(S, (0, 3, 4, 8)), (S, (0, 4, 3, 9)), (E, (1, 2, 5)), (T, (3, 3, 3, 3))]:
            one, other = Standing(people), at(people, places)
            for calls in [0, 1, 2, -1] + no_integers():
                with self.subTest(places=places, calls=calls):
                    with self.assertRaises(NoLead) as caught:
                        lead_script(one, other, calls)
                    self.assertIs(judge_lead(one, other, caught.exception.paper), True)

    def test_unlike_people_ahead_of_all_else(self):
        for people in [S, T, E]:
            for rows in unlike(people):
                for one, other in [(Standing(people), Standing(rows)), (Standing(rows), Standing(people))]:
                    for value in [0, 1, None, True, [], "a"]:
                        with self.assertRaises(UnlikePeople):
                            lead_script(one, other, value)
                        with self.assertRaises(UnlikePeople):
                            judge_script(one, other, value)


class JudgeScriptTest(unittest.TestCase):
    def check(self, people, places, value, told):
        with self.subTest(people=people, value=value):
            found = judge_script(Standing(people), at(people, places), value)
            self.assertEqual(found, told)
            if told is not None:
                self.assertIs(type(found), tuple)

    def test_right_scripts(self):
        for script in [[("cid", 2)], [("cid", 1), ("bob", 1)], [("ann", 1), ("dan", 1), ("cid", 1)]]:
            self.check(S, (2, 4, 4, 7), script, None)
            self.check(S, (2, 4, 4, 7), tuple(script), None)
        self.check(S, (0, 3, 4, 9), [], None)
        self.check([], (), (), None)
        self.check([("a", 0, 1), ("b", 400, 0)], (0, 50), [("a", 1)] * 350, None)

    def test_no_list_and_no_tuple(self):
        for value in anything() + [{"cid": 2}]:
            if not isinstance(value, (list, tuple)):
                self.check(S, (2, 4, 4, 7), value, ("form",))
                self.check(S, (0, 3, 4, 9), value, ("form",))

    def test_bad_rows(self):
        self.check(S, (2, 4, 4, 7), [("cid", 5)], ("row", 0))
        self.check(S, (2, 4, 4, 7), [("cid", 2), ("cid", 3)], ("row", 1))
        self.check(S, (2, 4, 4, 7), [("cid", 2), ["cid", 1]], ("row", 1))
        self.check(S, (2, 4, 4, 7), ("cid", 2), ("row", 0))
        for value in anything():
            self.check(S, (2, 4, 4, 7), [("cid", 2), value], ("row", 1))

    def test_another_end(self):
        self.check(S, (2, 4, 4, 7), [], ("end", "ann"))
        self.check(S, (2, 4, 4, 7), [("cid", 1)], ("end", "ann"))
        self.check(S, (0, 2, 3, 9), [("ann", 1)], ("end", "dan"))
        self.check(S, (0, 2, 9, 9), [("ann", 1)], ("end", "cid"))
        self.check(S[::-1], (9, 9, 2, 0), [("ann", 1)], ("end", "dan"))
        self.check(S[::-1], (8, 3, 9, 9), [("ann", 1)], ("end", "bob"))
        self.check([S[2], S[0], S[3], S[1]], (3, 9, 9, 9), [("ann", 1)], ("end", "ann"))

    def test_the_first_that_applies(self):
        self.check(S, (9, 9, 9, 9), "cid", ("form",))
        self.check(S, (9, 9, 9, 9), [("cid", 9)], ("row", 0))
        self.check(S, (9, 9, 9, 9), [("cid", 4), ("dan", 1)], ("end", "ann"))
        self.check(S, (5, 5, 5, 5), [("cid", 4), ("dan", 1), None], ("row", 2))

    def test_where_no_script_leads(self):
        self.check(S, (0, 3, 4, 8), [("cid", 1)], ("end", "ann"))
        self.check(S, (0, 3, 4, 8), [], ("end", "dan"))


class TidyTest(unittest.TestCase):
    def check(self, people, value, told):
        with self.subTest(people=people, value=value):
            self.assertIs(is_tidy(Standing(people), value), told)

    def test_scripts_of_each_kind_of_row(self):
        self.check(S, [], True)
        self.check(S, (), True)
        self.check(S, [("cid", 4)], True)
        self.check(S, (("cid", 4),), True)
        self.check(S, [("cid", 1), ("bob", 3)], True)
        self.check(S, [("ann", 4)], True)
        self.check(S, [("dan", 5)], True)
        self.check(S, [("ann", 4), ("dan", 5)], True)
        self.check(S, [("cid", 4), ("dan", 1)], True)
        self.check(S, [("cid", 1), ("bob", 2), ("ann", 1), ("dan", 2)], True)

    def test_rows_in_another_order(self):
        self.check(S, [("dan", 5), ("ann", 4)], False)
        self.check(S, [("ann", 1), ("cid", 1)], False)
        self.check(S, [("dan", 1), ("cid", 1)], False)
        self.check(S, [("ann", 1), ("dan", 1), ("cid", 1)], False)
        self.check(S, [("cid", 1), ("dan", 1), ("ann", 1)], False)

    def test_two_rows_of_the_first_or_the_last_crowd(self):
        self.check(S, [("ann", 1), ("ann", 3), ("dan", 5)], False)
        self.check(S, [("ann", 4), ("dan", 1), ("dan", 4)], False)
        self.check(S, [("ann", 1), ("dan", 1), ("ann", 1)], False)
        self.check(S, [("dan", 1), ("dan", 1)], False)

    def test_rows_that_begin_between_others(self):
        # Behind two calls of b it is the first crowd, with a, and the last but one row has calls of both kinds.
        people = [("a", 0, 0), ("b", 2, 1), ("c", 9, 0)]
        self.check(people, [("b", 2)], True)
        self.check(people, [("b", 3)], False)
        self.check(people, [("b", 7)], False)
        self.check(people, [("b", 2), ("b", 5)], True)
        self.check(people, [("b", 1), ("a", 0)], False)
        self.check(people, [("b", 1), ("b", 1), ("a", 5)], True)
        self.check(people, [("b", 1), ("b", 1), ("a", 4), ("b", 1)], False)
        people = [("a", 0, 0), ("b", 7, 1), ("c", 9, 0)]
        self.check(people, [("b", 2)], True)
        self.check(people, [("b", 3)], False)
        self.check(people, [("b", 2), ("b", 5)], True)
        self.check(people, [("b", 2), ("b", 4), ("c", 1)], False)

    def test_a_crowd_between_that_grows_and_stays_between(self):
        people = [("a", 0, 0), ("b", 3, 0), ("c", 4, 1), ("d", 9, 0)]
        self.check(people, [("c", 4)], True)
        self.check(people, [("c", 5)], False)
        self.check(people, [("c", 4), ("c", 1)], True)
        self.check(people, [("c", 2), ("b", 2), ("a", 1)], True)

    def test_two_crowds(self):
        self.check([("a", 0, 1), ("b", 5, 0)], [("a", 5)], True)
        self.check([("a", 0, 1), ("b", 5, 0)], [("a", 3), ("a", 2)], False)
        self.check([("a", 0, 1), ("b", 5, 1)], [("a", 3), ("b", 2)], True)
        self.check([("a", 0, 1), ("b", 5, 1)], [("b", 3), ("a", 2)], False)

    def test_great_times(self):
        people = [("a", -FAR, 1), ("b", 0, 1), ("c", FAR, 1)]
        self.check(people, [("b", FAR)], True)
        self.check(people, [("b", FAR - 1), ("a", 1), ("c", 1)], True)
        self.check(people, [("a", FAR), ("c", FAR)], True)
        self.check([("a", 0, 0), ("b", FAR - 1, 1), ("c", 2 * FAR, 0)], [("b", FAR)], False)

    def test_what_is_no_script(self):
        for value in anything() + [[("cid", 5)], [("bob", 1)], [("cid", 4), ("cid", 1)], [["cid", 1]], ("cid", 1),
                                   [("cid", True)], {"cid": 1}, [("cid", 0)], [("eve", 1)], [None], [("cid", 1), 5]]:
            if value not in ([], ()):
                self.check(S, value, False)

    def test_nobody(self):
        self.check([], [], True)
        self.check([], [("a", 1)], False)
        self.check([], None, False)

    def test_like_call_by_call(self):
        lot = random.Random(4)
        told = []
        for _ in range(2000):
            people = plain.random_people(lot, 6, 9)
            script = random_script(lot, people, lot.randrange(5))
            told.append(plain_tidy(people, script))
            self.check(people, script, told[-1])
        self.assertGreater(told.count(True), 200)
        self.assertGreater(told.count(False), 200)


class TidyScriptTest(unittest.TestCase):
    def check(self, standing, script):
        with self.subTest(standing=standing.people(), script=script):
            before = list(script)
            found = tidy_script(standing, script)
            self.assertIs(type(found), list)
            self.assertLessEqual(len(found), 200)
            self.assertIs(is_tidy(standing, found), True)
            self.assertEqual(walked(standing, found), walked(standing, script))
            self.assertEqual(calls_of(found), calls_of(script))
            self.assertEqual(list(script), before)

    def test_examples(self):
        for script in [[], (), [("ann", 1), ("dan", 1), ("cid", 1)], [("dan", 5), ("ann", 4)], [("cid", 4), ("dan", 1)],
                       (("ann", 2), ("cid", 1), ("ann", 1), ("dan", 1))]:
            self.check(Standing(S), script)
        self.check(Standing([]), [])

    def test_like_call_by_call(self):
        lot = random.Random(5)
        for _ in range(500):
            people = plain.random_people(lot, 7, 12)
            script = random_script(lot, people, lot.randrange(9))
            self.check(Standing(people), script)
            self.assertTrue(plain_tidy(people, tidy_script(Standing(people), script)))

    def test_many_rows(self):
        self.check(Standing([("a", 0, 1), ("b", 400, 0)]), [("a", 1)] * 400)
        people = [("p" + str(k), 30 * k, 1) for k in range(40)]
        self.check(Standing(people), [("p" + str(k % 40), 1) for k in range(0, 400, 3)])

    def test_bad_calls(self):
        for script, number in [([("cid", 5)], 0), ([("cid", 4), ("cid", 1)], 1), ([("cid", 4), ["dan", 1]], 1),
                               ([None], 0), ([("cid", 4), ("dan", 1), ("dan", 1)], 2), ([("eve", 1)], 0),
                               ([("cid", 1), ("cid", True)], 1)]:
            for value in [script, tuple(script)]:
                with self.subTest(script=value):
                    with self.assertRaises(BadCall) as caught:
                        tidy_script(Standing(S), value)
                    self.assertEqual(caught.exception.number, number)
                    with self.assertRaises(BadCall):
                        standings_along(Standing(S), value)


if __name__ == "__main__":
    unittest.main()
