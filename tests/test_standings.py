import copy
import unittest

from oddcrowds.errors import BadStanding, UnknownName
from oddcrowds.standings import (Standing, are_like, crowd_names, moved_person, shifted_standing, turned_standing,
                                 voiced, with_person, without_person)
from values import anything, integers, no_integers, no_words, words

FAR = 10 ** 30
PEOPLE = [("ann", 0, 1), ("bob", 3, 0), ("cid", 4, 1), ("dan", 4, 1)]
MIXED = [("dan", 4, 1), ("bob", -3, 0), ("ann", 4, 0), ("cid", -3, 1), ("eve", 0, 1), ("a", 4, 1)]


def s():
    return Standing(PEOPLE)


def path_of(people):
    """The path that Standing raises, or None."""
    try:
        Standing(people)
    except BadStanding as error:
        return error.path
    return None


class PathTest(unittest.TestCase):
    def check(self, people, path):
        with self.subTest(people=people):
            self.assertEqual(path_of(people), path)

    def test_no_list(self):
        for value in anything():
            if not isinstance(value, (list, tuple)):
                self.check(value, ())
        for value in ["ann", {}, {"ann": (0, 1)}, 7, None, True, Standing([]), s()]:
            self.check(value, ())

    def test_right_people(self):
        for people in [[], (), PEOPLE, tuple(PEOPLE), MIXED, [("a", -5, 0)], (("a", FAR, 1),)]:
            self.check(people, None)

    def test_no_person(self):
        wrong = [value for value in anything()
                 if not (isinstance(value, tuple) and len(value) == 3)]
        for value in wrong + [["ann", 0, 1], ("ann", 0), ("ann", 0, 1, 1), (), "abc", {"a": 1, "b": 2, "c": 3}]:
            self.check([value], (0,))
            self.check((("x", 1, 1), value), (1,))
            self.check(PEOPLE + [value], (4,))

    def test_name(self):
        for value in no_words():
            self.check([(value, 0, 1)], (0, 0))
            self.check([("x", 0, 1), ("y", 0, 1), (value, 0, 1)], (2, 0))
        for value in words():
            self.check([(value, 0, 1)], None)

    def test_name_of_an_earlier_person(self):
        self.check([("ann", 0, 1), ("ann", 0, 1)], (1, 0))
        self.check([("ann", 0, 1), ("bob", 1, 0), ("ann", 5, 0)], (2, 0))
        self.check(PEOPLE + [("ann", 9, 1)], (4, 0))
        self.check(PEOPLE + [("eve", 9, 1), ("dan", 9, 1), ("eve", 9, 1)], (5, 0))

    def test_place(self):
        for value in no_integers() + words():
            self.check([("x", value, 1)], (0, 1))
            self.check([("ann", 0, 1), ("x", value, 1)], (1, 1))
        for value in integers():
            self.check([("x", value, 1)], None)
        self.check([("x", True, 1)], (0, 1))
        self.check([("x", False, 0)], (0, 1))

    def test_voice(self):
        for value in no_integers() + words() + [2, -1, 3, FAR]:
            self.check([("x", 5, value)], (0, 2))
            self.check([("ann", 0, 1), ("x", 5, value)], (1, 2))
        self.check([("x", 5, True)], (0, 2))
        self.check([("x", 5, False)], (0, 2))
        self.check([("x", 5, 0)], None)
        self.check([("x", 5, 1)], None)

    def test_the_first_of_several(self):
        self.check([("A", None, 2)], (0, 0))
        self.check([("a", None, 2)], (0, 1))
        self.check([("a", 0, 1), ("a", None, 2)], (1, 0))
        self.check([("a", 0, 1), ("b", None, 2), ("a", 0, 1)], (1, 1))

    def test_each_person_is_looked_at_completely_before_the_next_one(self):
        self.check([("a", 0, 2), ("A", 0, 1)], (0, 2))
        self.check([("a", 0, 2), ["a", 0, 1]], (0, 2))
        self.check([("a", True, 1), ("a", 0, 1)], (0, 1))
        self.check([("a", 0, 1), ("b", 0, 9), ("a", 0, 1), None], (1, 2))


class StandingTest(unittest.TestCase):
    def test_people_and_names(self):
        for people in [[], PEOPLE, MIXED]:
            standing = Standing(tuple(people))
            self.assertEqual(standing.people(), people)
            self.assertIs(standing.people().__class__, list)
            self.assertEqual(standing.names(), [name for name, _, _ in people])

    def test_place_and_voice(self):
        for name, place, voice in MIXED:
            self.assertEqual(Standing(MIXED).place(name), place)
            self.assertEqual(Standing(MIXED).voice(name), voice)
        self.assertEqual(s().place("bob"), 3)
        self.assertEqual(s().voice("bob"), 0)
        self.assertEqual(s().voice("ann"), 1)

    def test_has_name(self):
        for name, _, _ in PEOPLE:
            self.assertIs(s().has_name(name), True)
        for value in anything():
            with self.subTest(value=value):
                self.assertIs(s().has_name(value), False)
                self.assertIs(Standing([]).has_name(value), False)

    def test_unknown_names(self):
        calls = [lambda standing, name: standing.place(name), lambda standing, name: standing.voice(name),
                 lambda standing, name: moved_person(standing, name, 1), without_person,
                 lambda standing, name: voiced(standing, name, 1)]
        unknown = anything() + [["ann"], ("ann",), {"ann": 1}, "Ann", "an", "anna"]
        for call in calls:
            for standing in [s(), Standing([])]:
                for name in unknown:
                    with self.subTest(name=name):
                        with self.assertRaises(UnknownName) as caught:
                            call(standing, name)
                        self.assertIs(caught.exception.name, name)

    def test_places(self):
        self.assertEqual(s().places(), [0, 3, 4])
        self.assertEqual(Standing(MIXED).places(), [-3, 0, 4])
        self.assertEqual(Standing([]).places(), [])
        self.assertEqual(Standing([("a", FAR, 1), ("b", -FAR, 0), ("c", -1, 0), ("d", -2, 0)]).places(),
                         [-FAR, -2, -1, FAR])

    def test_at(self):
        self.assertEqual([s().at(k) for k in range(-1, 6)], [[], ["ann"], [], [], ["bob"], ["cid", "dan"], []])
        self.assertEqual(Standing(MIXED).at(4), ["dan", "ann", "a"])
        self.assertEqual(Standing(MIXED).at(-3), ["bob", "cid"])
        self.assertEqual(Standing([("a", 1, 1), ("b", 0, 0)]).at(1), ["a"])
        for value in no_integers():
            with self.subTest(value=value):
                self.assertEqual(Standing([("a", 1, 1), ("b", 0, 0)]).at(value), [])

    def test_line(self):
        self.assertEqual(s().line(), ["ann", "bob", "cid", "dan"])
        self.assertEqual(Standing(MIXED).line(), ["bob", "cid", "eve", "dan", "ann", "a"])
        self.assertEqual(Standing([]).line(), [])
        self.assertEqual(Standing([("b", 5, 0), ("a", 5, 1)]).line(), ["b", "a"])
        self.assertEqual(Standing([("b", -5, 1), ("a", -6, 0), ("c", FAR, 0), ("d", -5, 0)]).line(),
                         ["a", "b", "d", "c"])

    def test_voices(self):
        self.assertEqual(s().voices(), 3)
        self.assertEqual(Standing(MIXED).voices(), 4)
        self.assertEqual(Standing([]).voices(), 0)
        self.assertEqual(Standing([("a", 7, 0)]).voices(), 0)

    def test_is_together(self):
        self.assertIs(s().is_together(), False)
        self.assertIs(Standing([]).is_together(), True)
        self.assertIs(Standing([("a", 3, 1)]).is_together(), True)
        self.assertIs(Standing([("a", -FAR, 1), ("b", -FAR, 0), ("c", -FAR, 1)]).is_together(), True)
        self.assertIs(Standing([("a", FAR, 1), ("b", FAR, 0), ("c", FAR - 1, 1)]).is_together(), False)

    def test_forty_people(self):
        people = [("p" + str(k), (k * 7) % 5 - FAR, k % 2) for k in range(40)]
        standing = Standing(people)
        self.assertEqual(standing.people(), people)
        self.assertEqual(standing.voices(), 20)
        self.assertEqual(standing.places(), [k - FAR for k in range(5)])
        self.assertEqual(standing.at(3 - FAR), ["p" + str(k) for k in range(4, 40, 5)])
        self.assertEqual(standing.line()[:9], ["p" + str(k) for k in [0, 5, 10, 15, 20, 25, 30, 35, 3]])

    def test_equal(self):
        same = [PEOPLE, tuple(PEOPLE), s().people()]
        for people in same:
            self.assertIs(Standing(people) == s(), True)
            self.assertIs(Standing(people) != s(), False)
        self.assertIs(Standing([]) == Standing(()), True)
        others = [[], PEOPLE[:3], PEOPLE[1:], PEOPLE[::-1], PEOPLE + [("eve", 0, 1)], [PEOPLE[1], PEOPLE[0]] + PEOPLE[2:],
                  [("ann", 0, 0)] + PEOPLE[1:], [("ann", 1, 1)] + PEOPLE[1:], [("eve", 0, 1)] + PEOPLE[1:]]
        for people in others:
            with self.subTest(people=people):
                self.assertIs(Standing(people) == s(), False)
                self.assertIs(Standing(people) != s(), True)

    def test_equal_to_nothing_else(self):
        for other in [PEOPLE, tuple(PEOPLE), None, True, 0, "", {}, BadStanding(())]:
            for one in [s(), Standing([])]:
                with self.subTest(other=other):
                    self.assertIs(one == other, False)
                    self.assertIs(other == one, False)
                    self.assertIs(one != other, True)
                    self.assertIs(other != one, True)

    def test_are_like(self):
        like = Standing([("ann", 9, 1), ("bob", -3, 0), ("cid", 9, 1), ("dan", FAR, 1)])
        self.assertIs(are_like(s(), s()), True)
        self.assertIs(are_like(s(), like), True)
        self.assertIs(are_like(Standing([]), Standing([])), True)
        unlike = [[], PEOPLE[:3], PEOPLE[::-1], PEOPLE + [("eve", 0, 0)], PEOPLE[:3] + [("dan", 4, 0)],
                  PEOPLE[:3] + [("eve", 4, 1)], PEOPLE[:2] + [PEOPLE[3], PEOPLE[2]]]
        for people in unlike:
            with self.subTest(people=people):
                self.assertIs(are_like(s(), Standing(people)), False)
                self.assertIs(are_like(Standing(people), s()), False)


class ChangedTest(unittest.TestCase):
    def test_moved_person(self):
        self.assertEqual(moved_person(s(), "bob", -FAR).people(), [PEOPLE[0], ("bob", -FAR, 0)] + PEOPLE[2:])
        self.assertEqual(moved_person(s(), "dan", 0).people(), PEOPLE[:3] + [("dan", 0, 1)])
        self.assertEqual(moved_person(s(), "ann", 0), s())

    def test_voiced(self):
        self.assertEqual(voiced(s(), "bob", 1).people(), [PEOPLE[0], ("bob", 3, 1)] + PEOPLE[2:])
        self.assertEqual(voiced(s(), "dan", 0).people(), PEOPLE[:3] + [("dan", 4, 0)])
        self.assertEqual(voiced(s(), "ann", 1), s())
        self.assertEqual(voiced(s(), "bob", 0), s())

    def test_without_person(self):
        self.assertEqual(without_person(s(), "bob").people(), [PEOPLE[0]] + PEOPLE[2:])
        self.assertEqual(without_person(s(), "dan").people(), PEOPLE[:3])
        self.assertEqual(without_person(Standing([("a", 1, 1)]), "a"), Standing([]))

    def test_with_person(self):
        self.assertEqual(with_person(s(), ("a", -1, 0)).people(), PEOPLE + [("a", -1, 0)])
        self.assertEqual(with_person(Standing([]), ("a", -1, 1)).people(), [("a", -1, 1)])
        self.assertEqual(with_person(without_person(s(), "ann"), ("ann", 0, 1)).people(), PEOPLE[1:] + PEOPLE[:1])

    def test_with_no_person(self):
        wrong = [(["eve", 0, 1], (4,)), (None, (4,)), ((), (4,)), (("eve", 0), (4,)), (("ann", 9, 0), (4, 0)),
                 ((["eve"], 9, 0), (4, 0)), (("eve", True, 0), (4, 1)), (("eve", None, 7), (4, 1)),
                 (("eve", 0, True), (4, 2)), (("eve", 0, 2), (4, 2)), ([("eve", 0, 1)], (4,)), (s(), (4,))]
        for person, path in wrong:
            with self.subTest(person=person):
                with self.assertRaises(BadStanding) as caught:
                    with_person(s(), person)
                self.assertEqual(caught.exception.path, path)
        with self.assertRaises(BadStanding) as caught:
            with_person(Standing([]), [])
        self.assertEqual(caught.exception.path, (0,))

    def test_turned(self):
        turned = turned_standing(s())
        self.assertEqual([turned.place(name) for name in ["ann", "bob", "cid", "dan"]], [0, -3, -4, -4])
        self.assertEqual(turned.people(), [("ann", 0, 1), ("bob", -3, 0), ("cid", -4, 1), ("dan", -4, 1)])
        self.assertEqual(turned_standing(turned), s())
        self.assertEqual(turned_standing(Standing([])), Standing([]))
        self.assertIs(are_like(turned, s()), True)

    def test_shifted(self):
        self.assertEqual(shifted_standing(s(), -5).people(),
                         [("ann", -5, 1), ("bob", -2, 0), ("cid", -1, 1), ("dan", -1, 1)])
        for by in [0, 1, -1, 7, FAR, -FAR]:
            there = shifted_standing(s(), by)
            self.assertEqual(there.places(), [by, 3 + by, 4 + by])
            self.assertEqual(shifted_standing(there, -by), s())
            self.assertIs(are_like(there, s()), True)
        self.assertEqual(shifted_standing(Standing([]), 4), Standing([]))


class CrowdNamesTest(unittest.TestCase):
    def test_the_first_of_each_crowd_from_left_to_right(self):
        people = [("d", 5, 0), ("b", -2, 1), ("c", 5, 1), ("a", -2, 1), ("e", 0, 0)]
        self.assertEqual(crowd_names(Standing(people)), ["b", "e", "d"])
        self.assertEqual(crowd_names(Standing(people[::-1])), ["a", "e", "c"])
        self.assertEqual(crowd_names(Standing([])), [])


class NothingIsSharedTest(unittest.TestCase):
    def test_the_passed_list_is_not_kept_and_not_changed(self):
        people = list(PEOPLE)
        standing = Standing(people)
        self.assertEqual(people, PEOPLE)
        people[0] = ("eve", 9, 0)
        people.pop()
        self.assertEqual(standing.people(), PEOPLE)
        self.assertEqual(standing.names(), ["ann", "bob", "cid", "dan"])
        self.assertEqual(standing.line(), ["ann", "bob", "cid", "dan"])

    def test_a_wrong_list_is_not_changed(self):
        people = [("ann", 0, 1), ["bob", {"a": []}]]
        before = copy.deepcopy(people)
        self.assertEqual(path_of(people), (1,))
        self.assertEqual(people, before)

    def test_returned_lists_are_new(self):
        standing = s()
        asked = [standing.people, standing.names, standing.places, standing.line, lambda: standing.at(4),
                 lambda: standing.at(1), lambda: standing.at(None)]
        for ask in asked:
            first = ask()
            before = list(first)
            self.assertIs(first.__class__, list)
            self.assertIsNot(ask(), first)
            first.append("more")
            self.assertEqual(ask(), before)
        self.assertEqual(standing, s())

    def test_standings_stay_as_they_are(self):
        standing = s()
        moved_person(standing, "ann", 5)
        voiced(standing, "ann", 0)
        without_person(standing, "ann")
        with_person(standing, ("eve", 1, 1))
        turned_standing(standing)
        shifted_standing(standing, 3)
        self.assertEqual(standing, s())
        self.assertEqual(standing.people(), PEOPLE)
        self.assertEqual(standing.place("ann"), 0)
        self.assertEqual(standing.voice("ann"), 1)

    def test_repeated_calls_are_equal(self):
        for people in [PEOPLE, MIXED, [], [("a", 0, 7)], [("a", 0, 1), ("a", 0, 1)]]:
            self.assertEqual(path_of(people), path_of(people))
        self.assertEqual(moved_person(s(), "ann", 5), moved_person(s(), "ann", 5))


if __name__ == "__main__":
    unittest.main()
