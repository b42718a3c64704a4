import copy
import random
import unittest

import plain
import plainhouse
import plainways
from oddcrowds.choosing import lost_by
from oddcrowds.errors import BadAct, BadStanding, NoLead, NothingDone, UnknownName, UnlikePeople
from oddcrowds.house import House
from oddcrowds.leading import judge_lead
from oddcrowds.standings import Standing
from plain import S
from test_histories import GOAL
from test_leading import unlike
from test_parting import T, at
from values import anything, no_words, words

FAR = 10 ** 30
NO_STANDINGS = [value for value in anything() if not isinstance(value, Standing)] + [S, tuple(S), House(Standing(S))]


def caught(function, *values):
    """The class of the error that a function raises and its attributes, or None."""
    try:
        function(*values)
    except (BadAct, NothingDone, UnknownName, UnlikePeople, NoLead, BadStanding) as error:
        return type(error), vars(error)
    return None


def account(house):
    """All that a house tells, so that two accounts can be compared."""
    return (house.standing(), house.goal(), house.state(), house.done(), house.undone(), house.made(), house.meets(),
            house.parts(), house.least_left(), house.most_left(), house.early_waste(), house.late_waste(),
            house.callers_on(), [(name, house.marked(name)) for name in house.marks()])


class PlainHouse:
    """A house whose state is found anew from the first one each time."""

    def __init__(self, people):
        self.start = people
        self.done, self.undone = [], []

    def states(self):
        found = [(self.start, None)]
        for act in self.done:
            found.append(plainhouse.after(*found[-1], act))
        return found

    def state(self):
        return self.states()[-1]

    def do(self, act):
        """Do an act, or return the word that tells why not."""
        word = plainhouse.word(*self.state(), act)
        if word is None and len(self.done) >= 120:
            word = "full"
        if word is None:
            self.done, self.undone = self.done + [act], []
        return word

    def told(self):
        """Made, meets, parts, least and most left, both wastes and the callers that lead on."""
        people, goal = self.state()
        made = sum(act[2] for act in self.done if act[0] == "call")
        odd = sum(voice for _, _, voice in people) % 2 == 1
        found = [made, plainways.meets(people), None if odd else plain.sum_of(people, "odd")]
        if goal is None:
            return found + [None] * 5
        numbers = plain.lead_numbers(people, goal)
        k = max(k for k, act in enumerate(self.done) if act[0] == "goal") + 1
        first = plain.lead_numbers(self.states()[k][0], goal)
        since = made - sum(act[2] for act in self.done[:k] if act[0] == "call")
        on = [name for name in plain.callers(people) if plain.lead_numbers(plain.called(people, name), goal)]
        return found + [numbers[0], numbers[-1], since + numbers[0] - first[0], first[-1] - numbers[-1] - since, on]


class MadeTest(unittest.TestCase):
    def test_a_new_house(self):
        for people in [[], S, T]:
            house = House(Standing(people))
            self.assertEqual(house.standing(), Standing(people))
            self.assertIsNone(house.goal())
            self.assertEqual(house.state(), (Standing(people), None))
            self.assertIs(type(house.state()), tuple)
            self.assertEqual((house.done(), house.undone(), house.marks(), house.made()), ([], [], [], 0))

    def test_no_standings(self):
        for value in NO_STANDINGS:
            with self.subTest(value=value):
                with self.assertRaises(BadStanding) as error:
                    House(value)
                self.assertEqual(error.exception.path, ())

    def test_what_was_handed_in_stays(self):
        standing = Standing(S)
        house = House(standing)
        acts = [("call", "ann", 1), ("voice", "bob"), ("goal", None)]
        house.tried(acts)
        self.assertEqual(acts, [("call", "ann", 1), ("voice", "bob"), ("goal", None)])
        acts.append(("go", "ann"))
        self.assertEqual(len(house.done()), 3)
        self.assertEqual(standing, Standing(S))


class ActsTest(unittest.TestCase):
    def refused(self, house, act, word):
        before = account(house)
        for function, value in [(house.do, act), (house.tried, [act]), (house.would, [act])]:
            self.assertEqual(caught(function, value), (BadAct, {"word": word}))
            self.assertEqual(account(house), before)

    def test_do_undo_redo(self):
        house = House(Standing(S))
        self.assertEqual(house.do(("call", "cid", 1)), 1)
        self.assertEqual(house.do(("come", ("eve", 2, 0))), 2)
        self.assertEqual(house.do(("goal", (1, 4, 4, 8, 2))), 3)
        self.assertEqual(house.state(), (Standing(at(S, (1, 4, 4, 8)).people() + [("eve", 2, 0)]),) * 2)
        self.assertEqual(house.undo(), 2)
        self.assertIsNone(house.goal())
        self.assertEqual(house.undo(), 1)
        self.assertEqual(house.standing(), at(S, (1, 4, 4, 8)))
        self.assertEqual(house.done(), [("call", "cid", 1)])
        self.assertEqual(house.undone(), [("come", ("eve", 2, 0)), ("goal", (1, 4, 4, 8, 2))])
        self.assertEqual(house.redo(), 2)
        self.assertEqual(house.undone(), [("goal", (1, 4, 4, 8, 2))])
        self.assertEqual(house.redo(), 3)
        self.assertEqual(house.undone(), [])
        self.assertEqual(house.goal(), house.standing())
        self.assertEqual(caught(house.redo), (NothingDone, {}))
        self.assertEqual([house.undo() for _ in range(3)], [2, 1, 0])
        self.assertEqual(caught(house.undo), (NothingDone, {}))
        self.assertEqual(house.standing(), Standing(S))

    def test_a_new_act_takes_the_undone_ones_away(self):
        house = House(Standing(S))
        house.tried([("call", "ann", 1), ("call", "cid", 1), ("call", "dan", 1)])
        house.undo()
        house.undo()
        self.assertEqual(house.undone(), [("call", "cid", 1), ("call", "dan", 1)])
        self.refused(house, ("call", "eve", 1), "name")
        self.assertEqual(house.undone(), [("call", "cid", 1), ("call", "dan", 1)])
        self.assertEqual(house.do(("call", "ann", 1)), 2)
        self.assertEqual(house.undone(), [])
        self.assertEqual(caught(house.redo), (NothingDone, {}))

    def test_nothing_done(self):
        house = House(Standing(S))
        for function in [house.undo, house.redo]:
            before = account(house)
            self.assertEqual(caught(function), (NothingDone, {}))
            self.assertEqual(account(house), before)

    def test_acts_are_kept_as_they_were_passed(self):
        house = House(Standing(S))
        acts = [("call", "ann", 1), ("come", ("eve", 2, 1)), ("goal", (0, 2, 3, 8, 2))]
        for act in acts:
            house.do(act)
        for kept, act in zip(house.done(), acts):
            self.assertIs(kept, act)
        house.undo()
        self.assertIs(house.undone()[0], acts[-1])

    def test_refused_acts_of_all_kinds(self):
        house = House(Standing(S))
        house.tried([("call", "ann", 1), ("call", "cid", 1)])
        house.undo()
        for value in anything():
            self.refused(house, value, "form")
        self.refused(house, ("call", "bob", 1), "calls")
        self.refused(house, ("go", "eve"), "name")
        self.refused(house, ("come", ("ann", 1, 1)), "person")
        self.refused(house, ("step", "ann", FAR + 1), "far")
        self.refused(house, ("goal", (0, 3, 4, 9)), "lead")
        house.do(("goal", (0, 2, 3, 8)))
        self.refused(house, ("voice", "ann"), "goal")
        self.refused(house, ("call", "ann", 1), "goal")

    def test_tried(self):
        house = House(Standing(S))
        for acts in [[], ()]:
            self.assertEqual(house.tried(acts), 0)
        self.assertEqual(house.tried([("call", "ann", 1), ("call", "cid", 1)]), 2)
        self.assertEqual(house.tried((("call", "dan", 1),)), 3)
        self.assertEqual(house.standing(), at(S, GOAL))
        house.undo()
        before = account(house)
        self.assertEqual(house.tried([]), 2)
        self.assertEqual(account(house), before)
        self.assertEqual(house.undone(), [("call", "dan", 1)])
        error = (BadAct, {"word": "name"})
        self.assertEqual(caught(house.tried, [("call", "dan", 1), ("go", "eve"), None]), error)
        self.assertEqual(account(house), before)
        self.assertEqual(caught(house.would, [("call", "dan", 1), ("go", "eve"), None]), error)
        self.assertEqual(account(house), before)

    def test_would(self):
        house = House(Standing(S))
        house.do(("call", "ann", 1))
        house.undo()
        before = account(house)
        self.assertEqual(house.would([]), (Standing(S), None))
        self.assertEqual(house.would(()), house.state())
        self.assertEqual(house.would([("goal", GOAL), ("call", "cid", 2)]), (at(S, GOAL), at(S, GOAL)))
        self.assertEqual(house.would([("goal", GOAL), ("goal", None)]), (Standing(S), None))
        self.assertEqual(account(house), before)

    def test_full(self):
        house = House(Standing([("a", 0, 1), ("b", FAR, 1)]))
        for k in range(120):
            self.assertEqual(house.do(("call", "a", 1)), k + 1)
        self.refused(house, ("call", "a", 1), "full")
        self.refused(house, ("goal", None), "full")
        self.refused(house, ("call", "c", 1), "name")
        self.refused(house, None, "form")
        self.assertEqual(house.made(), 120)
        self.assertEqual(house.tried([]), 120)
        self.assertEqual(house.would([]), house.state())
        self.assertEqual(house.undo(), 119)
        self.assertEqual(house.would([("call", "a", 1)])[0].place("b"), FAR - 120)
        for function in [house.tried, house.would]:
            self.assertEqual(caught(function, [("call", "a", 1)] * 2), (BadAct, {"word": "full"}))
            self.assertEqual(caught(function, [("call", "a", 1), ("call", "c", 1)]), (BadAct, {"word": "name"}))
        self.assertEqual(house.undone(), [("call", "a", 1)])
        self.assertEqual(house.redo(), 120)
        self.refused(house, ("voice", "a"), "full")

    def test_full_at_once(self):
        house = House(Standing([("a", 0, 1), ("b", FAR, 1)]))
        self.assertEqual(caught(house.tried, [("call", "a", 1)] * 121), (BadAct, {"word": "full"}))
        self.assertEqual(caught(house.tried, [("call", "a", 1)] * 120 + [("go", "c")]), (BadAct, {"word": "name"}))
        self.assertEqual(house.done(), [])
        self.assertEqual(house.tried([("call", "a", 1)] * 120), 120)

    def test_like_a_plain_house(self):
        lot = random.Random(1)
        words_told = {}
        for _ in range(40):
            people = plainways.lively_people(lot, 5, 7)
            house, plain_house = House(Standing(people)), PlainHouse(people)
            for _ in range(40):
                self.one_more(lot, house, plain_house, words_told)
                people, goal = plain_house.state()
                self.assertEqual(house.state(), (Standing(people), None if goal is None else Standing(goal)))
                self.assertEqual((house.done(), house.undone()), (plain_house.done, plain_house.undone))
                self.assertEqual([house.made(), house.meets(), house.parts(), house.least_left(), house.most_left(),
                                  house.early_waste(), house.late_waste(), house.callers_on()], plain_house.told())
        self.assertLessEqual({None, "name", "times", "calls", "goal", "person", "by", "lead"}, set(words_told))

    def one_more(self, lot, house, plain_house, words_told):
        kind = lot.randrange(10)
        if kind == 0:
            told = None if plain_house.done else (NothingDone, {})
            self.assertEqual(caught(house.undo), told)
            if plain_house.done:
                plain_house.undone.insert(0, plain_house.done.pop())
        elif kind == 1:
            self.assertEqual(caught(house.redo), None if plain_house.undone else (NothingDone, {}))
            if plain_house.undone:
                plain_house.done.append(plain_house.undone.pop(0))
        elif kind == 2:
            self.some_more(lot, house, plain_house)
        else:
            act = plainhouse.random_act(lot, *plain_house.state())
            word = plain_house.do(act)
            words_told[word] = words_told.get(word, 0) + 1
            self.assertEqual(caught(house.do, act), None if word is None else (BadAct, {"word": word}))

    def some_more(self, lot, house, plain_house):
        ahead = copy.deepcopy(plain_house)
        acts = []
        word = None
        while len(acts) < lot.randrange(4) and word is None:
            acts.append(plainhouse.random_act(lot, *plain_house.state()))
            word = plain_house.do(acts[-1])
        if word is not None:
            plain_house.done, plain_house.undone = ahead.done, ahead.undone
        told = None if word is None else (BadAct, {"word": word})
        before = account(house)
        self.assertEqual(caught(house.would, acts), told)
        self.assertEqual(account(house), before)
        behind = house.would(acts) if word is None else house.state()
        self.assertEqual(caught(house.tried, acts), told)
        self.assertEqual(house.state(), behind)

    def test_forty_people(self):
        people = [("p" + str(k), -FAR if k < 20 else FAR, 1 if k in (3, 25, 30) else 0) for k in range(40)]
        house = House(Standing(people))
        self.refused(house, ("come", ("eve", 0, 1)), "many")
        self.assertEqual(house.do(("go", "p39")), 1)
        self.refused(house, ("come", ("eve", FAR + 1, 1)), "far")
        self.assertEqual(house.do(("come", ("eve", FAR, 0))), 2)
        self.assertEqual(house.do(("goal", (-FAR,) * 20 + (0,) * 20)), 3)
        self.assertEqual((house.least_left(), house.most_left()), (FAR, FAR))
        self.refused(house, ("call", "p3", FAR + 1), "goal")
        self.assertEqual(house.do(("call", "p0", FAR - 1)), 4)
        self.assertEqual((house.least_left(), house.made(), house.meets()), (1, FAR - 1, -FAR))
        self.assertEqual(house.callers_on(), ["p0"])


class AccountTest(unittest.TestCase):
    def check(self, house, **told):
        found = {name: getattr(house, name)() for name in told}
        self.assertEqual(found, told)

    def test_example(self):
        house = House(Standing(S))
        self.check(house, meets=5, parts=None, made=0)
        house.do(("goal", GOAL))
        self.check(house, meets=5, least_left=2, most_left=3, early_waste=0, late_waste=0, callers_on=["ann", "cid", "dan"])
        house.do(("call", "ann", 1))
        self.check(house, made=1, least_left=2, most_left=2, early_waste=1, late_waste=0)
        self.assertEqual(caught(house.do, ("call", "ann", 1)), (BadAct, {"word": "goal"}))
        house.do(("call", "cid", 1))
        house.do(("call", "dan", 1))
        self.assertEqual(house.standing(), house.goal())
        self.check(house, made=3, least_left=0, most_left=0, early_waste=1, late_waste=0, callers_on=[], meets=5)

    def test_the_fewest_calls(self):
        house = House(Standing(S))
        house.tried([("goal", GOAL), ("call", "cid", 1)])
        self.check(house, least_left=1, most_left=2, early_waste=0, late_waste=0, callers_on=["ann", "bob", "dan"])
        house.do(("call", "bob", 1))
        self.check(house, made=2, least_left=0, most_left=0, early_waste=0, late_waste=1)

    def test_without_a_goal(self):
        house = House(Standing(S))
        self.check(house, least_left=None, most_left=None, early_waste=None, late_waste=None, callers_on=None, made=0)
        house.tried([("call", "ann", 1), ("goal", (0, 2, 3, 8)), ("goal", None)])
        self.check(house, least_left=None, most_left=None, early_waste=None, late_waste=None, callers_on=None, made=1)

    def test_a_goal_that_is_set_again(self):
        house = House(Standing(S))
        house.tried([("goal", GOAL), ("call", "ann", 1)])
        self.check(house, early_waste=1, late_waste=0)
        house.do(("goal", GOAL))
        self.check(house, early_waste=0, late_waste=0, least_left=2, most_left=2, made=1)
        house.do(("call", "cid", 1))
        self.check(house, early_waste=0, late_waste=0, made=2)
        house.undo()
        house.undo()
        self.check(house, early_waste=1, late_waste=0, made=1)
        house.redo()
        self.check(house, early_waste=0, late_waste=0)
        house.undo()
        house.do(("goal", None))
        self.check(house, early_waste=None, least_left=None)
        house.undo()
        self.check(house, early_waste=1, least_left=2)
        house.undo()
        self.check(house, early_waste=0, late_waste=0, least_left=2, most_left=3)
        house.undo()
        self.check(house, early_waste=None, made=0)

    def test_calls_ahead_of_the_goal_do_not_count_as_waste(self):
        house = House(Standing([("a", 0, 1), ("b", 100, 1), ("c", 200, 1)]))
        house.tried([("call", "b", 5), ("goal", (100, 100, 100)), ("call", "a", 3), ("call", "b", 2)])
        self.check(house, made=10, early_waste=3, late_waste=2)

    def test_wastes_along_ways(self):
        lot = random.Random(2)
        lost_early = lost_late = 0
        for _ in range(60):
            people = plain.with_voices(plainways.lively_people(lot, 6, 12), lot.randrange(4) > 0)
            told = sorted(plain.numbers_from(people))
            row = lot.choice(told) if lot.randrange(2) else min(told, key=plain.width_of)
            house = House(Standing(people))
            house.do(("goal", tuple(place for _, place, _ in row)))
            least, most = house.least_left(), house.most_left()
            early = late = 0
            while house.callers_on():
                name = lot.choice(house.callers_on())
                more = lost_by(house.standing(), house.goal(), name)
                house.do(("call", name, 1))
                early, late = early + more[0], late + more[1]
                self.check(house, early_waste=early, late_waste=late)
                if house.standing().voices() % 2 == 0:
                    self.assertEqual((early, late), (0, 0))
            self.assertEqual(house.standing(), house.goal())
            self.assertEqual((early, late), (house.made() - least, most - house.made()))
            lost_early, lost_late = lost_early + early, lost_late + late
        self.assertGreater(lost_early, 0)
        self.assertGreater(lost_late, 0)

    def test_meets_and_parts(self):
        lot = random.Random(3)
        for _ in range(60):
            house = House(Standing(plainways.lively_people(lot, 6, 9)))
            for _ in range(15):
                act = plainhouse.random_act(lot, house.standing().people(), house.goal() and house.goal().people())
                before, meets, parts, made = house.standing(), house.meets(), house.parts(), house.made()
                if caught(house.do, act) is not None:
                    continue
                self.assertEqual(house.meets() is None, house.standing().voices() % 2 == 0)
                self.assertEqual(house.parts() is None, house.standing().voices() % 2 == 1)
                silent = act[0] in ("go", "step") and before.voice(act[1]) == 0 or act[0] == "come" and act[1][2] == 0
                if act[0] in ("call", "goal"):
                    self.assertEqual(house.meets(), meets)
                    if parts is not None:
                        self.assertEqual(house.parts() + house.made(), parts + made)
                elif silent:
                    self.assertEqual((house.meets(), house.parts()), (meets, parts))
                elif act[0] == "step" and abs(act[2]) == 1 and meets is not None:
                    self.assertEqual(abs(house.meets() - meets), 1)

    def test_two_who_come_to_one_place_or_leave_it(self):
        for people in [S, T, [("a", 0, 1)], []]:
            for place in range(-2, 12):
                house = House(Standing(people))
                told = (house.meets(), house.parts())
                house.tried([("come", ("x", place, 1)), ("come", ("y", place, 1))])
                self.assertEqual((house.meets(), house.parts()), told)
                house.tried([("go", "x"), ("go", "y")])
                self.assertEqual((house.meets(), house.parts()), told)

    def test_the_lists_are_new(self):
        house = House(Standing(S))
        house.tried([("goal", GOAL), ("call", "cid", 1), ("call", "bob", 1)])
        house.undo()
        house.keep("here")
        before = account(house)
        for found in [house.done(), house.undone(), house.callers_on(), house.marks()]:
            found.append("x")
            found.clear()
        self.assertEqual(account(house), before)


class MarksTest(unittest.TestCase):
    def test_keep(self):
        house = House(Standing(S))
        self.assertIsNone(house.keep("start"))
        house.do(("call", "cid", 1))
        self.assertIsNone(house.keep("at"))
        self.assertEqual(house.marks(), ["start", "at"])
        self.assertEqual(house.marked("start"), Standing(S))
        self.assertEqual(house.marked("at"), at(S, (1, 4, 4, 8)))

    def test_marks_through_acts_undo_and_redo(self):
        house = House(Standing(S))
        house.do(("call", "cid", 1))
        house.keep("a")
        house.undo()
        house.keep("b")
        house.redo()
        house.tried([("go", "ann"), ("voice", "bob")])
        self.assertEqual(house.marks(), ["a", "b"])
        self.assertEqual(house.marked("a"), at(S, (1, 4, 4, 8)))
        self.assertEqual(house.marked("b"), Standing(S))

    def test_kept_again_under_the_same_name(self):
        house = House(Standing(S))
        house.keep("a")
        house.keep("b")
        house.do(("call", "ann", 1))
        self.assertIsNone(house.keep("a"))
        self.assertEqual(house.marks(), ["a", "b"])
        self.assertEqual(house.marked("a"), at(S, (0, 2, 3, 8)))
        self.assertEqual(house.marked("b"), Standing(S))

    def test_names_that_are_no_words(self):
        house = House(Standing(S))
        for value in no_words() + [["a"], ("a",)]:
            before = account(house)
            for function in [house.keep, house.marked, house.left_to_mark]:
                found = caught(function, value)
                self.assertIs(found[0], UnknownName)
                self.assertIs(found[1]["name"], value)
            self.assertEqual(account(house), before)
        for name in words():
            self.assertIsNone(house.keep(name))
        self.assertEqual(house.marks(), words())

    def test_no_such_mark(self):
        house = House(Standing(S))
        house.keep("a")
        for name in ["b", "ann", "aa"]:
            for function in [house.marked, house.left_to_mark]:
                self.assertEqual(caught(function, name), (UnknownName, {"name": name}))

    def test_left_to_mark(self):
        house = House(Standing(S))
        house.do(("call", "cid", 2))
        house.keep("there")
        self.assertEqual(house.left_to_mark("there"), (0, 0))
        house.undo()
        self.assertEqual(house.left_to_mark("there"), (2, 3))
        self.assertIs(type(house.left_to_mark("there")), tuple)
        house.do(("call", "dan", 2))
        found = caught(house.left_to_mark, "there")
        self.assertIs(found[0], NoLead)
        self.assertIs(judge_lead(house.standing(), at(S, GOAL), found[1]["paper"]), True)
        for act in [("go", "bob"), ("voice", "ann"), ("come", ("eve", 3, 0))]:
            house.do(act)
            self.assertEqual(caught(house.left_to_mark, "there"), (UnlikePeople, {}))
            house.undo()


class TwinTest(unittest.TestCase):
    def house(self):
        house = House(Standing(S))
        house.keep("start")
        house.tried([("call", "ann", 1), ("goal", (2, 4, 4, 7)), ("call", "cid", 1)])
        house.undo()
        house.keep("now")
        return house

    def test_equal_houses(self):
        house, twin = self.house(), self.house().twin()
        self.assertIs(house == twin, True)
        self.assertIs(house != twin, False)
        self.assertEqual(account(house), account(twin))
        self.assertIs(House(Standing([])) == House(Standing([])), True)
        self.assertIs(house == house.twin().twin(), True)

    def test_a_twin_of_a_new_house(self):
        for people in [[], S]:
            house = House(Standing(people))
            twin = house.twin()
            self.assertIs(house == twin, True)
            self.assertEqual(twin.state(), (Standing(people), None))
            twin.keep("a")
            self.assertEqual(house.marks(), [])

    def test_a_twin_goes_its_own_way(self):
        changes = [lambda one: one.undo(), lambda one: one.redo(), lambda one: one.do(("call", "dan", 1)),
                   lambda one: one.keep("start"), lambda one: one.keep("new"), lambda one: one.tried([("goal", None)])]
        for change in changes:
            house = self.house()
            before = account(house)
            twin = house.twin()
            change(twin)
            self.assertEqual(account(house), before)
            self.assertIs(house == twin, False)
            self.assertIs(house != twin, True)
            twin = house.twin()
            change(house)
            self.assertEqual(account(twin), before)
            self.assertIs(house == twin, False)

    def test_the_past_of_a_twin(self):
        twin = self.house().twin()
        self.assertEqual(twin.redo(), 3)
        self.assertEqual([twin.undo() for _ in range(3)], [2, 1, 0])
        self.assertEqual(twin.state(), (Standing(S), None))
        self.assertEqual(twin.early_waste(), None)

    def test_unlike_in_one_part_alone(self):
        first = self.house()
        # The same done and undone acts and marks, but another start.
        one, other = House(Standing(S)), House(Standing(S[::-1]))
        self.assertIs(one == other, False)
        one.do(("go", "bob"))
        other.do(("go", "bob"))
        self.assertIs(one == other, False)
        # Equal states, unlike done acts.
        one, other = House(Standing(S)), House(Standing(S))
        one.do(("call", "cid", 2))
        other.tried([("call", "cid", 1), ("call", "cid", 1)])
        self.assertIs(one == other, False)
        self.assertIs(one != other, True)
        # Unlike undone acts.
        one, other = House(Standing(S)), House(Standing(S))
        one.do(("call", "cid", 1))
        one.undo()
        self.assertIs(one == other, False)
        # Marks in another order, and with other standings.
        one, other = self.house(), House(Standing(S))
        for name, change in [("now", [("call", "ann", 1), ("goal", (2, 4, 4, 7))]), ("start", [])]:
            other.tried(change)
            other.keep(name)
        self.assertIs(first == other, False)
        one.keep("start")
        self.assertIs(first == one, False)

    def test_equal_by_another_way(self):
        one, other = House(Standing(S)), House(Standing(list(S)))
        one.tried([("call", "ann", 1), ("call", "cid", 1)])
        other.tried([("call", "ann", 1), ("go", "bob")])
        other.undo()
        other.do(("call", "cid", 1))
        self.assertIs(one == other, True)
        one.keep("a")
        one.keep("b")
        other.keep("a")
        self.assertIs(one == other, False)
        other.keep("b")
        self.assertIs(one == other, True)

    def test_what_is_no_house(self):
        house = House(Standing(S))
        for value in anything() + [Standing(S), S, (Standing(S), None)]:
            self.assertIs(house == value, False)
            self.assertIs(house != value, True)

    def test_unlike_people_are_told(self):
        for rows in unlike(S):
            self.assertIs(House(Standing(S)) == House(Standing(rows)), False)


if __name__ == "__main__":
    unittest.main()
