import functools
import random
import unittest

import plain
import plainways
from oddcrowds.errors import TooGreat, UnlikePeople
from oddcrowds.falltables import judge_table
from oddcrowds.leading import lead_bounds, leads
from oddcrowds.meeting import meeting_place
from oddcrowds.scripts import walked
from oddcrowds.standings import Standing
from oddcrowds.tablelists import fall_tables
from plain import S
from test_falltables import FIRST, SECOND
from test_histories import GOAL
from test_leading import E, unlike
from test_parting import T, at




def steps_of(people, other, calls_of_first):
    """The steps that fall, as pairs (gap, sign), from left to right, and None at each kept gap, in one list.

    Ahead of them stand the steps with which the first crowd makes so many calls, behind them those of the last one.
    """
    gaps = plain.gaps(people)
    found = [(-1, -1)] * calls_of_first
    height = -calls_of_first
    for gap, ((_, width, kind), (_, kept)) in enumerate(zip(gaps, plain.kept_steps(people, other))):
        sign = 1 if kind == "odd" else -1
        left = width - kept if kept == 0 else -sign * height
        right = width - kept - left
        found += [(gap, sign)] * left + [None] * (kept > 0) + [(gap, sign)] * right
        height += sign * (width - kept)
        if kept > 0:
            height = sign * right
    return found + [(len(gaps), -1 if height > 0 else 1)] * abs(height)


def count_pairings(steps, last):
    """In how many ways steps of unlike signs can fall two by two so that no two pairs cross."""
    @functools.lru_cache(None)
    def count(start, end):
        if start == end:
            return 1
        gap, sign = steps[start]
        return sum(count(start + 1, k) * count(k + 1, end) for k in range(start + 1, end, 2)
                   if steps[k][1] != sign and (gap, steps[k][0]) != (-1, last))
    return count(0, len(steps))


def count_tables(people, other):
    """How many fall tables there are, counted step by step."""
    many = 0
    odd_voices = sum(voice for _, _, voice in people) % 2 == 1
    moved = plain.first_place(other) - plain.first_place(people)
    for calls in plain.lead_numbers(people, other):
        # All calls but those of the first crowd move the first place.
        ways, piece = 1, []
        for step in steps_of(people, other, calls - moved) + [None]:
            if step is None:
                ways *= count_pairings(tuple(piece), len(plain.gaps(people)))
                piece = []
            else:
                piece.append(step)
        many += ways
    assert odd_voices or many == 0 or len(plain.lead_numbers(people, other)) == 1
    return many


class FallTablesTest(unittest.TestCase):
    def check(self, one, other, told):
        with self.subTest(one=one.people(), other=other.people()):
            found = fall_tables(one, other)
            self.assertIs(type(found), list)
            self.assertTrue(all(type(table) is list for table in found))
            self.assertEqual(found, sorted(found))
            self.assertEqual(len({tuple(table) for table in found}), len(found))
            for table in found:
                self.assertIsNone(judge_table(one, other, table))
            if told is not None:
                self.assertEqual(found, told)
            return len(found)

    def test_examples(self):
        self.check(Standing(S), at(S, GOAL), [SECOND, FIRST])
        self.check(Standing(T), at(T, (1, 1, 1, 1)), None)

    def test_to_itself(self):
        for people in [[], S, T, E, [("a", 5, 1)]]:
            self.check(Standing(people), Standing(people), [[]])

    def test_where_none_leads(self):
        for people, places in [(S, (0, 3, 4, 8)), (S, (0, 4, 3, 9)), (E, (1, 2, 5)), (T, (3, 3, 3, 3)), ([("a", 5, 1)], (6,))]:
            self.check(Standing(people), at(people, places), [])

    def test_against_all_histories(self):
        lot = random.Random(1)
        for _ in range(150):
            people = plainways.lively_people(lot, 6, 7)
            told = plainways.histories_from(people, plain.callers)
            for row in lot.sample(sorted(told), min(len(told), 8)):
                if len(told[row]) < 400:
                    tables = {tuple(plainways.table(people, history)) for history in told[row]}
                    self.check(Standing(people), Standing(list(row)), sorted(list(table) for table in tables))

    def test_against_pairings_of_steps(self):
        lot = random.Random(2)
        many = {}
        for _ in range(150):
            people = plainways.lively_people(lot, 16, 60)
            people = now = [(name, place, 1 if lot.randrange(6) else voice) for name, place, voice in people]
            for _ in range(lot.randrange(90)):
                if plain.callers(now):
                    now = plain.called(now, lot.choice(plain.callers(now)))
            one, other = Standing(people), Standing(list(now))
            told = count_tables(people, list(now))
            many[told > 500] = many.get(told > 500, 0) + 1
            with self.subTest(people=people, now=now):
                if told > 500:
                    with self.assertRaises(TooGreat):
                        fall_tables(one, other)
                else:
                    self.assertEqual(self.check(one, other, None), told)
        self.assertEqual(set(many), {True, False})

    def test_two_hundred_calls(self):
        people = [("a", 0, 1), ("b", 100, 1), ("c", 200, 1)]
        one, other = Standing(people), at(people, (100, 100, 100))
        told = [[(-1, 0, 100), (1, 2, 100)]] + [[(-1, 0, k), (0, 1, 100 - k), (1, 2, k)] for k in range(1, 100)]
        self.check(one, other, sorted(told + [[(0, 1, 100)]]))

    def test_very_many_standings_between(self):
        people = [("p" + str(k), k * 10 ** 28, 1) for k in range(40)]
        one = Standing(people)
        script = [("p" + str(k), 5) for k in range(0, 40, 2)]
        self.check(one, walked(one, script), None)
        self.assertEqual(len(fall_tables(one, walked(one, script))), 1)

    def test_five_hundred_are_told(self):
        # Between kept gaps n, n, n and n steps fall in n + 1 ways.
        for shape in [(19, 24), (24, 19)]:
            one, other = self.two_pieces(*shape)
            self.assertEqual(count_tables(one.people(), other.people()), 500)
            self.assertEqual(self.check(one, other, None), 500)
        for places, place in [((4, 20, 23, 30, 36, 37, 40, 43, 46), 19), ((0, 12, 17, 19, 24, 30, 35, 43, 44), 16)]:
            self.assertEqual(self.check(*self.together(places, place), None), 500)

    def test_five_hundred_and_one_are_too_many(self):
        for places, place in [((3, 10, 17, 30, 37, 38, 43, 46, 47), 23), ((1, 3, 3, 6, 9, 15, 17, 22, 29, 31, 35), 17)]:
            one, other = self.together(places, place)
            self.assertEqual(count_tables(one.people(), other.people()), 501)
            with self.assertRaises(TooGreat):
                fall_tables(one, other)
        with self.assertRaises(TooGreat):
            fall_tables(*self.two_pieces(19, 25))

    def test_many_more_are_too_many(self):
        # Forty people, all with a voice but one, come together by at most two hundred calls.
        people = [("p" + str(k), 5 * k, 1 if k else 0) for k in range(40)]
        one = Standing(people)
        other = at(people, [meeting_place(one)] * 40)
        self.assertLessEqual(lead_bounds(one, other)[1], 200)
        with self.assertRaises(TooGreat):
            fall_tables(one, other)

    def together(self, places, place):
        people = [("p" + str(k), own, 1) for k, own in enumerate(places)]
        return Standing(people), at(people, [place] * len(people))

    def two_pieces(self, first, second):
        widths = [first] * 4 + [1000] + [1] + [second] * 4
        people = [("p" + str(k), sum(widths[:k]), 1) for k in range(len(widths) + 1)]
        start = 2 * (first + second)
        places = [start] * 5 + [start + 1000] + [start + 1001] * 5
        return Standing(people), at(people, places)

    def test_unlike_people(self):
        for rows in unlike(S):
            with self.assertRaises(UnlikePeople):
                fall_tables(Standing(S), Standing(rows))

    def test_nothing_is_shared(self):
        found = fall_tables(Standing(S), at(S, GOAL))
        found[0].clear()
        found.clear()
        self.assertEqual(fall_tables(Standing(S), at(S, GOAL)), [SECOND, FIRST])


if __name__ == "__main__":
    unittest.main()
