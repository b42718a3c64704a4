import random
import unittest

import plain
from oddcrowds.calls import called, callers
from oddcrowds.errors import OddVoices, UnlikePeople
from oddcrowds.parting import end_of_width, is_end, widths
from oddcrowds.standings import Standing, shifted_standing
from oddcrowds.twins import common_end, has_common_end
from test_parting import ODD, T, at, even_people

FAR = 10 ** 30


class TwinsTest(unittest.TestCase):
    def check(self, one, other, told):
        """Check two standings, of which is told whether they have a common end."""
        with self.subTest(one=one.people(), other=other.people()):
            self.assertIs(has_common_end(one, other), told)
            self.assertIs(has_common_end(other, one), told)
            end = common_end(one, other)
            self.assertEqual(end is not None, told)
            if told:
                self.assertEqual(end.names(), one.names())
                self.assertTrue(is_end(one, end))
                self.assertTrue(is_end(other, end))
                self.assertEqual(common_end(one, other), end)

    def check_by_ends(self, one, other):
        ends = plain.ends_of(one, plain.numbers_from(one))
        others = plain.ends_of(other, plain.numbers_from(other))
        both = [end for end in ends if end in others]
        self.check(Standing(one), Standing(other), bool(both))
        if both:
            self.assertIn(common_end(Standing(one), Standing(other)).people(), both)
        return bool(both)

    def test_example(self):
        one = Standing(T)
        bob = called(one, "bob")
        self.check(one, one, True)
        self.check(one, bob, True)
        self.check(bob, at(T, (1, 1, 1, 1)), True)
        self.check(bob, at(T, (2, 2, 2, 2)), True)
        self.check(bob, at(T, (1, 1, 2, 2)), False)
        self.check(at(T, (1, 1, 1, 1)), at(T, (2, 2, 2, 2)), False)
        self.check(one, at(T, (1, 1, 2, 2)), True)
        self.check(one, at(T, (3, 3, 3, 3)), False)

    def test_nobody(self):
        self.check(Standing([]), Standing([]), True)
        self.assertEqual(common_end(Standing([]), Standing([])), Standing([]))

    def test_one_person(self):
        self.check(Standing([("a", 5, 0)]), Standing([("a", 5, 0)]), True)
        self.check(Standing([("a", 5, 0)]), Standing([("a", 6, 0)]), False)

    def test_what_came_of_one_by_unlike_calls(self):
        lot = random.Random(1)
        told = []
        for _ in range(150):
            people = even_people(lot, 7, 9)
            both = []
            for _ in range(2):
                now = people
                for _ in range(lot.randrange(6)):
                    if plain.callers(now):
                        now = plain.called(now, lot.choice(plain.callers(now)))
                both.append(now)
            told.append(self.check_by_ends(both[0], both[1]))
            by = lot.choice([-2, -1, 1, 2])
            told.append(self.check_by_ends(both[0], [(name, at + by, voice) for name, at, voice in both[1]]))
        self.assertGreater(told.count(True), 50)
        self.assertGreater(told.count(False), 50)

    def test_what_has_a_common_order_alone(self):
        lot = random.Random(2)
        told = []
        for _ in range(600):
            count = lot.randrange(2, 8)
            names = lot.sample(["p" + str(k) for k in range(count)], count)
            voices = [lot.randrange(2) for _ in range(count)]
            voices[0] = (voices[0] + sum(voices)) % 2
            both = []
            for _ in range(2):
                places = sorted(lot.randrange(8) for _ in range(count))
                at = {name: place for name, place in zip(names, places)}
                both.append([(name, at[name], voice) for name, voice in sorted(zip(names, voices))])
            told.append(self.check_by_ends(both[0], both[1]))
        self.assertGreater(told.count(True), 50)
        self.assertGreater(told.count(False), 50)

    def test_people_who_are_together_in_one_alone(self):
        # In the one a and b stand together, in the other one b and c; the order of the people is another one.
        one = Standing([("c", 4, 1), ("b", 0, 1), ("a", 0, 1), ("d", 4, 1)])
        other = Standing([("c", 3, 1), ("b", 3, 1), ("a", 1, 1), ("d", 4, 1)])
        self.check(one, other, False)
        self.check_by_ends(one.people(), other.people())
        one = Standing([("c", 4, 1), ("b", 0, 1), ("a", 0, 1), ("d", 7, 1)])
        self.check_by_ends(one.people(), other.people())

    def test_great_gaps(self):
        lot = random.Random(3)
        for _ in range(30):
            rows = [("p" + str(k), k * 10 ** 28 + lot.randrange(10 ** 28), lot.randrange(2)) for k in range(40)]
            standing = Standing(plain.with_voices(lot.sample(rows, 40), 0))
            least, most = widths(standing)
            narrow, wide = end_of_width(standing, least), end_of_width(standing, most)
            self.check(standing, narrow, True)
            self.check(standing, wide, True)
            self.assertEqual(common_end(standing, wide), wide)
            self.check(narrow, wide, narrow == wide)
            self.check(standing, shifted_standing(wide, 10 ** 30), False)
        people = [("a", -FAR, 1), ("b", FAR, 1)]
        self.check(Standing(people), at(people, (FAR, FAR)), True)
        self.check(Standing(people), at(people, (0, FAR)), True)
        self.check(at(people, (-FAR, 0)), at(people, (0, FAR)), True)
        self.check(at(people, (-FAR, -1)), at(people, (0, FAR)), False)

    def test_an_end_stays_common_behind_some_call(self):
        lot = random.Random(4)
        for _ in range(100):
            now = Standing(even_people(lot, 7, 9))
            end = end_of_width(now, widths(now)[0])
            while callers(now):
                on = [called(now, name) for name in callers(now) if has_common_end(called(now, name), end)]
                self.assertTrue(on)
                now = lot.choice(on)
            self.assertEqual(now, end)


class ErrorsTest(unittest.TestCase):
    def raises(self, error, one, other):
        for function in [has_common_end, common_end]:
            with self.subTest(one=one.people(), other=other.people(), function=function.__name__):
                with self.assertRaises(error):
                    function(one, other)

    def test_odd_voices_ahead_of_unlike_people(self):
        for people in ODD:
            for other in [people, people[::-1], [], T, people[1:]]:
                self.raises(OddVoices, Standing(people), Standing(other))

    def test_unlike_people(self):
        for other in [[], T[::-1], T[:2], T[:3], T + [("eve", 4, 0)], T + [("eve", 4, 1)], [("eve", 0, 1)] + T[1:],
                      [("ann", 0, 0)] + T[1:], [("ann", 0, 0), ("bob", 1, 0)] + T[2:], [T[1], T[0]] + T[2:]]:
            self.raises(UnlikePeople, Standing(T), Standing(other))
        self.raises(UnlikePeople, Standing([]), Standing(T))
        # The voices of the first one are asked for.
        self.raises(UnlikePeople, Standing(T), Standing(T[:3]))
        self.raises(OddVoices, Standing(T[:3]), Standing(T))


if __name__ == "__main__":
    unittest.main()
