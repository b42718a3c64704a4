import itertools
import math
import random
import unittest

import plain
import plainways
from oddcrowds.errors import UnlikePeople
from oddcrowds.falltables import count_with, fall_table, judge_table, table_history
from oddcrowds.histories import is_history
from oddcrowds.leading import leads
from oddcrowds.scripts import walked
from oddcrowds.standings import Standing
from plain import S
from test_histories import GOAL
from test_leading import E, unlike
from test_parting import T, at
from values import anything, no_integers

FIRST = [(0, 2, 1), (1, 2, 1)]
SECOND = [(-1, 0, 1), (1, 2, 1), (2, 3, 1)]


def fault(people, other, table):
    """What judge_table should tell of rows of three integers, by the points of S9.4 one after the other."""
    spans = [row[:2] for row in table]
    if spans != sorted(set(spans)) or any(many < 1 for _, _, many in table):
        return ("form",)
    if not plain.in_order(people, other):
        return ("order",)
    kinds = [kind for _, _, kind in plain.gaps(people)]
    kept = [steps for _, steps in plain.kept_steps(people, other)]
    end = "even" if sum(voice for _, _, voice in people) % 2 == 1 else "odd"
    all_kinds = dict(enumerate(kinds))
    for k, (left, right) in enumerate(spans):
        between = left in all_kinds and right in all_kinds and left < right and kinds[left] != kinds[right]
        by_first = left == -1 and all_kinds.get(right) == "odd"
        by_last = right == len(kinds) and all_kinds.get(left) == end
        if not between and not by_first and not by_last:
            return ("span", k)
    for gap, (_, width, _) in enumerate(plain.gaps(people)):
        if sum(many for left, right, many in table if gap in (left, right)) != width - kept[gap]:
            return ("sum", gap)
    for j, k in itertools.combinations(range(len(spans)), 2):
        for (left, right), (start, end) in [(spans[j], spans[k]), (spans[k], spans[j])]:
            if left < start < right < end:
                return ("cross", j, k)
    for k, (left, right) in enumerate(spans):
        if any(kept[gap] > 0 for gap in range(left + 1, right)):
            return ("kept", k)
    moved = plain.first_place(other) - plain.first_place(people)
    return None if sum(many for left, _, many in table if left >= 0) == moved else ("place",)


def swapped(lot, table):
    """A table in which calls of two rows have each other's gaps, so that all gaps lose as much."""
    if len(table) < 2:
        return table
    (left, right, many), (start, end, more) = lot.sample(table, 2)
    found = {row[:2]: row[2] for row in table}
    times = lot.randrange(1, min(many, more) + 1)
    second = (right, start) if right < start and lot.randrange(2) else (start, right)
    for span, by in [((left, right), -times), ((start, end), -times), ((left, end), times), (second, times)]:
        found[span] = found.get(span, 0) + by
    return [(*span, found[span]) for span in sorted(found) if found[span]]


def changed(lot, table, gaps):
    """A table with a small change, its rows in order or not."""
    rows = list(table)
    for _ in range(lot.randrange(1, 4)):
        k = lot.randrange(len(rows) + 1)
        row = [lot.randrange(-2, gaps + 2), lot.randrange(-2, gaps + 2), lot.randrange(0, 4)]
        if k < len(rows) and lot.randrange(3):
            row = list(rows.pop(k))
            row[lot.randrange(3)] += lot.choice([-1, 1])
        if lot.randrange(4):
            rows.append(tuple(row))
    return rows if lot.randrange(5) == 0 else sorted(rows)


class FallTableTest(unittest.TestCase):
    def test_example(self):
        one = Standing(S)
        self.assertEqual(fall_table(one, ("cid", "bob")), FIRST)
        for history in itertools.permutations(["ann", "cid", "dan"]):
            self.assertEqual(fall_table(one, history), SECOND)
        self.assertEqual(count_with(one, at(S, GOAL), FIRST), 1)
        self.assertEqual(count_with(one, at(S, GOAL), SECOND), 6)
        self.assertEqual(table_history(one, at(S, GOAL), FIRST), ("cid", "bob"))

    def test_no_calls(self):
        for people in [[], S, T, [("a", 5, 1)]]:
            one = Standing(people)
            self.assertEqual(fall_table(one, ()), [])
            self.assertIsNone(judge_table(one, one, []))
            self.assertIsNone(judge_table(one, one, ()))
            self.assertEqual(count_with(one, one, []), 1)
            self.assertEqual(table_history(one, one, []), ())

    def test_each_history_of_small_pairs(self):
        lot = random.Random(1)
        for _ in range(80):
            people = plainways.lively_people(lot, 6, 7)
            told = plainways.histories_from(people, plain.callers)
            for row in lot.sample(sorted(told), min(len(told), 8)):
                self.check_all(people, row, told[row])

    def check_all(self, people, row, histories):
        one, other = Standing(people), Standing(list(row))
        found = {}
        for history in histories[:300]:
            table = fall_table(one, history)
            with self.subTest(people=people, history=history):
                self.assertIs(type(table), list)
                self.assertEqual(table, plainways.table(people, history))
            found.setdefault(tuple(table), []).append(history)
        if len(histories) > 300:
            return
        for table, alike in found.items():
            with self.subTest(people=people, row=row, table=table):
                self.assertIsNone(judge_table(one, other, table))
                self.assertIsNone(judge_table(one, other, list(table)))
                self.assertEqual(count_with(one, other, table), len(alike))
                self.assertIn(table_history(one, other, list(table)), alike)
                self.assertIs(type(table_history(one, other, table)), tuple)

    def test_two_hundred_calls(self):
        people = [("a", 0, 1), ("b", 150, 1), ("c", 300, 0), ("d", 450, 1), ("e", 600, 1)]
        one = Standing(people)
        script = [("b", 40), ("d", 30), ("a", 60), ("c", 0), ("e", 70)]
        script = [row for row in script if row[1]]
        history = tuple(name for name, times in script for _ in range(times))
        other = walked(one, script)
        self.assertEqual(len(history), 200)
        table = fall_table(one, history)
        self.assertEqual(table, [(-1, 0, 60), (0, 1, 40), (2, 3, 30), (3, 4, 70)])
        self.assertIsNone(judge_table(one, other, table))
        many = math.factorial(200)
        for times in (60, 40, 30, 70):
            many //= math.factorial(times)
        self.assertEqual(count_with(one, other, table), many)
        found = table_history(one, other, table)
        self.assertEqual(fall_table(one, found), table)
        self.assertIs(is_history(one, other, found), True)

    def test_rows_within_rows_with_two_hundred_calls(self):
        people = [("p" + str(k), 40 * k, 1) for k in range(10)]
        one = Standing(people)
        history, now = [], people
        lot = random.Random(2)
        while len(history) < 200 and plain.callers(now):
            name = lot.choice(plain.callers(now))
            for _ in range(min(lot.randrange(1, 30), 200 - len(history))):
                if name in plain.callers(now):
                    history.append(name)
                    now = plain.called(now, name)
        other = Standing(now)
        table = fall_table(one, tuple(history))
        self.assertEqual(table, plainways.table(people, history))
        self.assertIsNone(judge_table(one, other, table))
        found = table_history(one, other, table)
        self.assertEqual(fall_table(one, found), table)
        self.assertGreater(count_with(one, other, table), 1)


class JudgeTableTest(unittest.TestCase):
    def check(self, people, places, table, told):
        one, other = Standing(people), at(people, places)
        with self.subTest(people=people, places=places, table=table):
            kept = list(table)
            self.assertEqual(judge_table(one, other, table), told)
            self.assertEqual(judge_table(one, other, tuple(table)), told)
            self.assertEqual(table, kept)
            if told is not None and told != ("form",):
                self.assertEqual(count_with(one, other, table), 0)
                self.assertIsNone(table_history(one, other, table))
                self.assertEqual(fault(people, other.people(), table), told)

    def test_right_ones(self):
        self.check(S, GOAL, FIRST, None)
        self.check(S, GOAL, SECOND, None)
        self.check(E, (0, 2, 4), [], ("sum", 1))

    def test_values_that_are_no_tables(self):
        for value in anything():
            if not isinstance(value, (list, tuple)) or len(value) > 0:
                with self.subTest(value=value):
                    self.assertEqual(judge_table(Standing(S), at(S, GOAL), value), ("form",))
                    self.assertEqual(judge_table(Standing(S), at(S, GOAL), [value]), ("form",))
                    self.assertEqual(judge_table(Standing(S), at(S, GOAL), FIRST + [value]), ("form",))

    def test_form(self):
        rows = [[(0, 2, 1), [1, 2, 1]], [(0, 2, 1), (1, 2)], [(0, 2, 1), (1, 2, 1, 1)], [(0, 2, 1), (1, 2, 0)],
                [(0, 2, 1), (1, 2, -1)], [(0, 2, 1), (1, 2, True)], [(0, 2, 1), (True, 2, 1)], [(False, 2, 1), (1, 2, 1)],
                [(1, 2, 1), (0, 2, 1)], [(0, 2, 1), (0, 2, 2), (1, 2, 1)], [(0, 2, 2), (0, 2, 1), (1, 2, 1)],
                [(0, 2, 1), (0, 2, 1)], [(0, 2, 1), (0, 1, 1)], [(0, "2", 1)], [(0, None, 1)]]
        for table in rows:
            self.check(S, GOAL, table, ("form",))
        for value in no_integers():
            for row in [(value, 2, 1), (0, value, 1), (0, 2, value)]:
                self.check(S, GOAL, [row], ("form",))

    def test_order(self):
        self.check(S, (0, 4, 3, 9), FIRST, ("order",))
        self.check(S, (0, 3, 4, 10), [(5, 5, 5)], ("order",))
        self.check(S, (0, 4, 3, 9), [(1, 0, 0)], ("form",))

    def test_span(self):
        for row in [(0, 1, 1), (0, 0, 1), (2, 0, 1), (2, 1, 1), (-1, 2, 1), (-1, 3, 1), (-1, -1, 1), (-2, 0, 1), (0, 3, 1),
                    (1, 3, 1), (2, 4, 1), (3, 3, 1), (3, 4, 1), (-10 ** 39, 0, 1), (0, 10 ** 39, 1), (-1, 10 ** 39, 1)]:
            self.check(S, GOAL, [row], ("span", 0))
        self.check(S, GOAL, [(-1, 0, 1), (0, 1, 1), (5, 6, 1)], ("span", 1))
        self.check(S, GOAL, [(0, 2, 7), (2, 3, 9), (2, 4, 1)], ("span", 2))

    def test_span_of_the_last_crowd(self):
        # The number of voices is even: the last crowd takes odd steps.
        self.check(T, (0, 1, 2, 2), [(2, 3, 1)], ("place",))
        self.check(T, (1, 2, 3, 3), [(2, 3, 1)], None)
        self.check(T, (1, 2, 2, 3), [(1, 3, 1)], ("span", 0))
        self.check(S, (1, 4, 5, 9), [(2, 3, 1)], None)
        self.check(S, (1, 4, 5, 9), [(1, 3, 1)], ("span", 0))

    def test_no_gaps(self):
        for people in [[("a", 5, 1)], [("a", 5, 1), ("b", 5, 1)], []]:
            places = [place for _, place, _ in people]
            for row in [(-1, 0, 1), (0, 0, 1), (-1, 1, 1), (0, 1, 1), (-1, -1, 1)]:
                self.check(people, places, [row], ("span", 0))
            self.check(people, places, [], None)
            if people:
                self.check(people, [place + 1 for place in places], [], ("place",))

    def test_sum(self):
        self.check(S, GOAL, [], ("sum", 0))
        self.check(S, GOAL, [(0, 2, 1)], ("sum", 1))
        self.check(S, GOAL, [(0, 2, 1), (1, 2, 2)], ("sum", 1))
        self.check(S, GOAL, [(0, 2, 2), (1, 2, 1)], ("sum", 0))
        self.check(S, GOAL, [(-1, 0, 1), (1, 2, 1)], ("sum", 2))
        self.check(S, GOAL, [(0, 2, 1), (1, 2, 1), (2, 3, 10 ** 39)], ("sum", 2))

    def test_cross(self):
        people = [("a", 0, 1), ("b", 1, 1), ("c", 2, 1), ("d", 3, 1), ("e", 4, 1)]
        self.check(people, (2, 2, 2, 2, 2), [(0, 3, 1), (1, 2, 1)], None)
        self.check(people, (2, 2, 2, 2, 2), [(-1, 0, 1), (-1, 2, 1), (1, 4, 1), (3, 4, 1)], ("cross", 1, 2))
        self.check(people, (2, 2, 2, 2, 2), [(-1, 2, 1), (0, 1, 1), (3, 4, 1)], None)
        self.check(people, (2, 2, 2, 2, 2), [(-1, 0, 1), (-1, 2, 1), (1, 4, 1), (3, 4, 1)], ("cross", 1, 2))
        self.check(people, (2, 2, 2, 2, 2), [(-1, 2, 1), (0, 3, 1), (1, 4, 1)], ("cross", 0, 1))

    def test_kept(self):
        people = [("a", 0, 1), ("b", 2, 0), ("c", 4, 1), ("d", 6, 0)]
        # The gaps are odd, odd, even; the middle one is kept whole.
        self.check(people, (1, 2, 4, 5), [(0, 2, 1)], ("kept", 0))
        self.check(people, (0, 1, 3, 5), [(-1, 0, 1)], None)
        self.check(people, (0, 2, 3, 5), [(-1, 1, 1)], ("kept", 0))
        self.check(S, (1, 4, 5, 8), [(2, 3, 2)], ("place",))

    def test_place(self):
        self.check(S, (2, 5, 6, 10), [(2, 3, 1)], ("place",))
        self.check(S, (3, 5, 5, 8), FIRST, ("place",))
        self.check(S, (1, 3, 3, 6), FIRST, ("place",))
        self.check(T, (0, 0, 1, 2), [(-1, 0, 1)], None)
        self.check(T, (1, 1, 2, 3), [(-1, 0, 1)], ("place",))

    def test_each_break_is_looked_for_in_the_whole_table_ahead_of_the_next_one(self):
        lot = random.Random(3)
        words = {}
        for _ in range(4000):
            people = plainways.lively_people(lot, 6, 7) or S
            history, now = [], people
            for _ in range(lot.randrange(7)):
                if plain.callers(now):
                    history.append(lot.choice(plain.callers(now)))
                    now = plain.called(now, history[-1])
            table = plainways.table(people, history)
            if lot.randrange(2):
                table = swapped(lot, table)
            elif lot.randrange(2):
                table = changed(lot, table, len(plain.gaps(people)))
            if lot.randrange(4) == 0:
                now = plain.near(lot, now)
            told = fault(people, now, table)
            words[told and told[0]] = words.get(told and told[0], 0) + 1
            self.check(people, [place for _, place, _ in now], table, told)
        self.assertEqual(set(words), {None, "form", "order", "span", "sum", "cross", "kept", "place"})

    def test_just_the_tables_of_histories_are_right(self):
        lot = random.Random(4)
        for _ in range(60):
            people = plainways.lively_people(lot, 4, 4)
            told = plainways.histories_from(people, plain.callers)
            gaps = len(plain.gaps(people))
            spans = [(left, right) for left in range(-1, gaps) for right in range(left + 1, gaps + 1)]
            row = lot.choice(sorted(told))
            right = {tuple(plainways.table(people, history)) for history in told[row]}
            one, other = Standing(people), Standing(list(row))
            steps = plain.width_of(people) - plain.width_of(row)
            for counts in itertools.product(range(min(steps, 2) + 1), repeat=len(spans)):
                if sum(counts) <= 4:
                    table = tuple((left, end, many) for (left, end), many in zip(spans, counts) if many)
                    self.assertEqual(judge_table(one, other, table) is None, table in right)
            self.assertIs(leads(one, other), True)

    def test_unlike_people_ahead_of_all_else(self):
        for rows in unlike(S):
            for function in [judge_table, count_with, table_history]:
                for value in [FIRST, []]:
                    with self.assertRaises(UnlikePeople):
                        function(Standing(S), Standing(rows), value)
            with self.assertRaises(UnlikePeople):
                judge_table(Standing(S), Standing(rows), None)

    def test_nothing_is_shared(self):
        fall_table(Standing(S), ("cid", "bob")).clear()
        self.assertEqual(fall_table(Standing(S), ("cid", "bob")), FIRST)


if __name__ == "__main__":
    unittest.main()
