import random
import unittest

import plain
import plainhouse
import plainways
from oddcrowds.acts import act_word, state_after
from oddcrowds.errors import BadAct
from oddcrowds.standings import Standing
from plain import S
from test_histories import GOAL
from test_parting import T, at
from values import anything, nested, no_integers, no_words

FAR = 10 ** 30
FORTY = [("p" + str(k), (k - 20) * 5 * 10 ** 28, k % 2) for k in range(40)]


def word_of(state, act):
    """The word of the BadAct that state_after raises, or None."""
    try:
        state_after(state, act)
    except BadAct as error:
        return error.word
    return None


class ActsTest(unittest.TestCase):
    def word(self, people, act, told, goal=None):
        """Check the word of an act, or that it is one; goal are places or None."""
        state = (Standing(people), None if goal is None else at(people, goal))
        with self.subTest(people=people, goal=goal, act=act):
            self.assertEqual(act_word(state, act), told)
            self.assertEqual(word_of(state, act), told)
            self.assertEqual(state[0], Standing(people))

    def after(self, people, act, behind, goal=None, goal_behind=None):
        state = (Standing(people), None if goal is None else at(people, goal))
        with self.subTest(people=people, goal=goal, act=act):
            self.assertIsNone(act_word(state, act))
            found = state_after(state, act)
            self.assertIs(type(found), tuple)
            self.assertEqual(found, (Standing(behind), None if goal_behind is None else at(behind, goal_behind)))
            self.assertEqual(state[0], Standing(people))
            self.assertEqual(state_after(state, act), found)

    def test_calls(self):
        self.after(S, ("call", "cid", 1), at(S, (1, 4, 4, 8)).people())
        self.after(S, ("call", "cid", 4), at(S, (4, 4, 4, 5)).people())
        self.after(S, ("call", "cid", 1), at(S, (1, 4, 4, 8)).people(), GOAL, GOAL)
        self.after(S, ("call", "cid", 2), at(S, (2, 4, 4, 7)).people(), GOAL, GOAL)
        people = [("a", -FAR, 1), ("b", FAR, 0)]
        self.after(people, ("call", "a", 2 * FAR), [("a", -FAR, 1), ("b", -FAR, 0)])

    def test_changes(self):
        self.after(S, ("come", ("eve", 2, 1)), S + [("eve", 2, 1)])
        self.after([], ("come", ("eve", -FAR, 0)), [("eve", -FAR, 0)])
        self.after(S, ("come", ("at", FAR, 0)), S + [("at", FAR, 0)])
        self.after(S, ("go", "bob"), [S[0], S[2], S[3]])
        self.after([("a", 5, 1)], ("go", "a"), [])
        self.after(S, ("step", "bob", -10), [S[0], ("bob", -7, 0), S[2], S[3]])
        self.after(S, ("step", "dan", FAR - 9), S[:3] + [("dan", FAR, 1)])
        self.after(S, ("step", "ann", -FAR), [("ann", -FAR, 1)] + S[1:])
        self.after(S, ("voice", "bob"), [S[0], ("bob", 3, 1), S[2], S[3]])
        self.after(S, ("voice", "cid"), S[:2] + [("cid", 4, 0), S[3]])
        self.after(FORTY[:39], ("come", ("eve", 0, 1)), FORTY[:39] + [("eve", 0, 1)])

    def test_goals(self):
        self.after(S, ("goal", GOAL), S, None, GOAL)
        self.after(S, ("goal", (0, 3, 4, 9)), S, GOAL, (0, 3, 4, 9))
        self.after(S, ("goal", None), S)
        self.after(S, ("goal", None), S, GOAL)
        self.after([], ("goal", ()), [], None, ())
        self.after([], ("goal", None), [])

    def test_form(self):
        values = [("call",), ("call", "ann"), ("call", "ann", 1, 1), ("come",), ("come", "eve", 2, 1), ("go",),
                  ("go", "ann", 1), ("step", "ann"), ("step", "ann", 1, 1), ("voice",), ("voice", "ann", 1), ("goal",),
                  ("goal", 0, 3, 4, 9), ("clear",), ("", "ann"), ("calls", "ann", 1), ("Call", "ann", 1), (), [], "call",
                  ["call", "ann", 1], ["go", "ann"], (["go"], "ann"), (("go",), "ann"), (None, "ann"), (True, None),
                  ({}, "ann"), ("goal", None, None), ("go ", "ann"), ("undo",), nested(40), (nested(39), 1)]
        for value in anything() + values:
            for goal in [None, GOAL]:
                self.word(S, value, "form", goal)
            self.word([], value, "form")

    def test_call(self):
        for name in anything() + ["eve", ["ann"], ("ann",)]:
            self.word(S, ("call", name, 1), "name")
            self.word(S, ("call", name, 0), "name", GOAL)
        for times in no_integers() + [0, -1, -FAR]:
            self.word(S, ("call", "ann", times), "times")
            self.word(S, ("call", "bob", times), "times", GOAL)
        self.word(S, ("call", "bob", 1), "calls")
        self.word(S, ("call", "cid", 5), "calls")
        self.word(S, ("call", "bob", 10 ** 39), "calls", GOAL)
        self.word(S, ("call", "ann", 10 ** 39), "calls")
        self.word([("a", 5, 1)], ("call", "a", 1), "calls")
        self.word([("a", 5, 1)], ("call", "a", 1), "calls", (5,))
        self.word(S, ("call", "ann", 2), "goal", GOAL)
        self.word(S, ("call", "dan", 1), "goal", (0, 3, 4, 9))
        self.word(S, ("call", "dan", 1), "goal", (0, 0, 0, 5))
        self.word(S, ("call", "ann", 4), None, (0, 0, 0, 5))
        self.word(S, ("call", "ann", 5), "calls", (0, 0, 0, 5))
        self.word(S, ("call", "ann", 10), "calls", (0, 0, 0, 5))

    def test_changes_with_a_goal(self):
        for act in [("come", ("eve", 2, 1)), ("go", "ann"), ("step", "ann", 1), ("voice", "ann"), ("come", None),
                    ("go", None), ("step", "eve", 0), ("voice", "eve"), ("come", ("eve", 10 ** 31, 1))]:
            self.word(S, act, "goal", GOAL)

    def test_come(self):
        for value in anything() + [("eve", 2), ("eve", 2, 1, 1), ["eve", 2, 1], ("eve", 2, 2), ("eve", 2, True),
                                   ("eve", True, 1), ("eve", None, 1), ("eve", 2, None), ("ann", 2, 1), ("bob", 10 ** 31, 0),
                                   (("eve", 2, 1),)]:
            self.word(S, ("come", value), "person")
        for name in no_words():
            self.word(S, ("come", (name, 2, 1)), "person")
        for place in [FAR + 1, -FAR - 1, 10 ** 39]:
            self.word(S, ("come", ("eve", place, 1)), "far")
            self.word(FORTY, ("come", ("eve", place, 1)), "far")
        self.word(FORTY, ("come", ("eve", FAR, 1)), "many")
        self.word(FORTY, ("come", ("p7", FAR, 1)), "person")

    def test_names(self):
        for name in anything() + ["eve", ["ann"], ("ann",)]:
            self.word(S, ("go", name), "name")
            self.word(S, ("voice", name), "name")
            self.word(S, ("step", name, 1), "name")
            self.word(S, ("step", name, 0), "name")
            self.word([], ("go", name), "name")

    def test_step(self):
        for by in no_integers() + [0]:
            self.word(S, ("step", "ann", by), "by")
        for by in [FAR - 8, -FAR - 10, 10 ** 39, -10 ** 39]:
            self.word(S, ("step", "dan", by), "far")
        self.word(S, ("step", "dan", FAR - 9), None)
        self.word(S, ("step", "dan", -FAR - 9), None)

    def test_goal(self):
        for value in anything() + [[2, 4, 4, 7], (2, 4, 4), (2, 4, 4, 7, 7), (2, 4, 4, "7"), (2, 4, 4, True), (2, 4, 4, None),
                                   (2, 4, [4], 7), (), "2447"]:
            if value is not None:
                self.word(S, ("goal", value), "places")
                self.word(S, ("goal", value), "places", GOAL)
        self.word([], ("goal", (0,)), "places")
        for places in [(0, 3, 4, 8), (0, 4, 3, 9), (0, 0, 0, 6), (10 ** 31,) * 4]:
            self.word(S, ("goal", places), "lead")
            self.word(S, ("goal", places), "lead", GOAL)
        self.word(T, ("goal", (1, 1, 1, 2)), None)
        self.word(T, ("goal", (0, 0, 0, 0)), "lead")

    def test_true_in_the_place_of_1(self):
        people = [("a", 0, 1), ("b", 2, 1)]
        self.word(people, ("call", "a", True), "times")
        self.word(people, ("step", "a", True), "by")
        self.word(people, ("goal", (True, 2)), "places")
        self.word(people, ("come", ("c", True, 1)), "person")
        self.word(people, ("come", ("c", 0, True)), "person")
        self.word(people, ("goal", (False, 2)), "places")
        self.word(people, ("goal", (0, 2)), None)

    def test_lists_in_the_place_of_tuples(self):
        self.word(S, ["call", "ann", 1], "form")
        self.word(S, ("come", ["eve", 2, 1]), "person")
        self.word(S, ("goal", list(GOAL)), "places")

    def test_forty_people_on_both_sides(self):
        people = [("p" + str(k), -FAR if k < 20 else FAR, 1 if k in (3, 25, 30) else 0) for k in range(40)]
        self.after(people, ("call", "p0", 2 * FAR), [(name, -FAR, voice) for name, _, voice in people])
        self.word(people, ("call", "p20", 1), "calls")
        self.word(people, ("goal", (-FAR,) * 40), None)
        self.word(people, ("goal", (FAR,) * 40), "lead")
        goal = tuple([-FAR] * 20 + [0] * 20)
        self.after(people, ("call", "p0", 1), [(name, place - (place > 0), voice) for name, place, voice in people],
                   goal, goal)
        self.word(people, ("call", "p0", FAR + 1), "goal", goal)
        self.word(people, ("call", "p0", FAR), None, goal)

    def test_like_the_plain_way(self):
        lot = random.Random(1)
        words = {}
        for _ in range(4000):
            people = plainways.lively_people(lot, 5, 7)
            goal = None
            if lot.randrange(2):
                goal = people
                for _ in range(lot.randrange(6)):
                    if plain.callers(goal):
                        goal = plain.called(goal, lot.choice(plain.callers(goal)))
            act = plainhouse.random_act(lot, people, goal)
            told = plainhouse.word(people, goal, act)
            words[told] = words.get(told, 0) + 1
            state = (Standing(people), None if goal is None else Standing(goal))
            with self.subTest(people=people, goal=goal, act=act):
                self.assertEqual(act_word(state, act), told)
                self.assertEqual(word_of(state, act), told)
                if told is None:
                    behind, goal_behind = plainhouse.after(people, goal, act)
                    self.assertEqual(state_after(state, act),
                                     (Standing(behind), None if goal_behind is None else Standing(goal_behind)))
        self.assertLessEqual({None, "name", "times", "calls", "goal", "person", "by", "lead"}, set(words))


if __name__ == "__main__":
    unittest.main()
