"""What is promised of all functions: nothing is modified or shared, and the same call gives the same again."""

import copy
import importlib
import unittest

from oddcrowds.console import Console
from oddcrowds.errors import CrowdError, NameMissing
from oddcrowds.house import House
from oddcrowds.standings import Standing
from plain import S
from test_histories import GOAL
from test_interface import FUNCTIONS
from test_parting import T, at

ROWS = [("ann", 1), ("cid", 1)]
TABLE = [(0, 2, 1), (1, 2, 1)]
HISTORY = ("cid", "bob")
STEPS = ("steps", (("dan", 2),))
TEXT = "standing { ann at 0 voice; bob at 3; }"


def one():
    return Standing(S)


def goal():
    return at(S, GOAL)


def end():
    return at(T, (1, 1, 2, 2))


# For each function the arguments of some calls; what is to be made anew each time is a function.
CALLS = {
    "words": {"is_word": [["ann"], [1]], "is_integer": [[1], [True]], "is_number": [[1], [-1]]},
    "standings": {"are_like": [[one, goal], [one, end]], "moved_person": [[one, "ann", 5], [one, "eve", 5]],
                  "voiced": [[one, "bob", 1], [one, [], 1]], "without_person": [[one, "bob"], [one, None]],
                  "with_person": [[one, ("eve", 2, 1)], [one, ["eve", 2, 1]]], "turned_standing": [[one]],
                  "shifted_standing": [[one, -7]]},
    "lexemes": {"lexemes": [["a 1 -;"], ["a\t"]]},
    "standtexts": {"standing_text": [[one]], "read_standing": [[TEXT], [TEXT[:-1]]]},
    "gaps": {"gaps": [[one]], "odd_sum": [[one]], "even_sum": [[one]]},
    "heights": {"height_at": [[one, 3], [one, []]], "greatest_height": [[one]], "greatest_fall": [[one]],
                "loud_places": [[one]]},
    "sums": {"voice_places": [[one]], "turn_sum": [[one]]},
    "levels": {"places_at": [[one, 3], [one, None]], "least_height": [[one]], "count_above": [[one, 2]]},
    "calls": {"is_loud": [[one, "ann"], [one, "eve"]], "can_call": [[one, "bob"]], "called": [[one, "cid"], [one, "bob"]],
              "callers": [[one]], "is_quiet": [[one]], "times_of": [[one, "cid"]]},
    "scripts": {"standings_along": [[one, ROWS], [one, [ROWS]]], "walked": [[one, ROWS]], "first_bad": [[one, ROWS]],
                "calls_of": [[ROWS]], "script_text": [[ROWS]], "read_script": [["script { ann calls 1; }"], ["script"]]},
    "plainwalks": {"reached": [[one]], "numbers_by_walks": [[one, goal]], "script_by_walks": [[one, goal, 3]]},
    "backs": {"count_back": [[one]], "back_standings": [[one]], "comes_from": [[goal, one]]},
    "meeting": {"meeting_place": [[one], [end]], "call_numbers": [[one]], "share_of": [[one, 7], [one, 70]]},
    "meetscripts": {"meet_script": [[one, 7]], "judge_meeting": [[one, ROWS]]},
    "parting": {"left_calls": [[end], [one]], "widths": [[end]], "is_end": [[end, end]], "end_of_width": [[end, 1]]},
    "ends": {"count_ends": [[end]], "is_settled": [[end]], "all_ends": [[end]]},
    "endnumbers": {"end_at": [[end, 0], [end, 9]], "end_number": [[end, end], [end, None]], "next_end": [[end, end]],
                   "drawn_end": [[end, 77]]},
    "endcounts": {"counts_by_width": [[end]], "counts_by_place": [[end]]},
    "twins": {"has_common_end": [[end, end]], "common_end": [[end, end]]},
    "leading": {"leads": [[one, goal]], "all_bounds": [[one, goal]], "lead_bounds": [[one, goal], [goal, one]],
                "lead_paper": [[one, goal], [goal, one]], "judge_lead": [[one, goal, ("leads", 1)]]},
    "leadscripts": {"lead_script": [[one, goal, 2], [one, goal, 9]], "judge_script": [[one, goal, ROWS]],
                    "is_tidy": [[one, ROWS]], "tidy_script": [[one, ROWS]]},
    "prices": {"price_of": [[one, ROWS, [1, 2, 3]]], "lead_prices": [[one, goal, [1, 2, 3]]],
               "cheapest_script": [[one, goal, [1, 2, 3]]]},
    "choosing": {"callers_on": [[one, goal]], "callers_barring": [[one, goal]], "lost_by": [[one, goal, "ann"]],
                 "fewest_callers": [[one, goal]], "most_callers": [[one, goal]]},
    "between": {"is_between": [[one, one, goal]], "all_between": [[one, goal]], "nearest_of": [[one, lambda: [goal(), one()]]]},
    "lastcalls": {"last_calls": [[one]], "last_script": [[one, ("first", 0)], [one, ["first", 0]]]},
    "allloud": {"free_called": [[one, "bob"], [one, {}]], "free_numbers": [[one]], "free_numbers_at": [[one, 4]],
                "can_meet_free": [[one, 4, 5]], "free_paper": [[one, 4, 5], [one, [], 5]]},
    "freescripts": {"free_walked": [[one, ROWS], [one, [ROWS]]], "free_script": [[one, 4, 5], [one, 4, 4]],
                    "judge_free": [[one, 4, 5, ROWS]]},
    "freeleads": {"free_lead_numbers": [[one, goal]], "free_lead_script": [[one, goal, 2], [one, goal, [2]]]},
    "freehistories": {"count_free": [[one, goal]], "free_counts": [[one, goal]],
                      "is_free_history": [[one, goal, HISTORY], [one, goal, list(HISTORY)]]},
    "histories": {"count_histories": [[one, goal]], "counts_by_calls": [[one, goal], [one, end]],
                  "is_history": [[one, goal, HISTORY], [one, goal, [HISTORY]]]},
    "historynumbers": {"history_at": [[one, goal, 3], [one, goal, 99]],
                       "history_number": [[one, goal, HISTORY], [one, goal, list(HISTORY)]],
                       "next_history": [[one, goal, HISTORY], [one, goal, HISTORY[:1]]],
                       "drawn_history": [[one, goal, 99]]},
    "falltables": {"fall_table": [[one, HISTORY]], "judge_table": [[one, goal, TABLE], [one, goal, TABLE[1:]]],
                   "count_with": [[one, goal, TABLE], [one, goal, []]], "table_history": [[one, goal, TABLE]]},
    "tablelists": {"fall_tables": [[one, goal], [goal, one], [one, end]]},
    "exchanges": {"can_exchange": [[one, "ann", "cid"]], "are_alike": [[one, HISTORY, HISTORY]],
                  "exchange_path": [[one, ("ann", "cid", "dan"), ("dan", "cid", "ann")], [one, HISTORY, ()]]},
    "wishes": {"wished_steps": [[one, 7], [end, 7]], "wished_voices": [[one, 8], [one, 7]], "places_by_voices": [[one]],
               "judge_wish": [[one, 7, STEPS], [one, 7, list(STEPS)]]},
    "goals": {"left_to": [[one, goal], [goal, one]], "wastes": [[one, 0, one, goal], [one, 2, goal, goal]]},
    "acts": {"act_word": [[lambda: (one(), goal()), ("call", "ann", 2)], [lambda: (one(), None), ["go", "ann"]]],
             "state_after": [[lambda: (one(), None), ("goal", GOAL)], [lambda: (one(), goal()), ("go", "ann")]]},
}


def made(arguments):
    return [argument() if callable(argument) else copy.copy(argument) for argument in arguments]


def outcome(function, arguments):
    """What a call returns, or the class of the error that it raises and its attributes."""
    try:
        return function(*arguments)
    except (CrowdError, NameMissing) as error:
        return type(error), vars(error)


def containers(value):
    """All lists and dicts in a value, at any depth."""
    found = [value] if isinstance(value, (list, dict)) else []
    if isinstance(value, dict):
        value = list(value.values())
    if isinstance(value, (list, tuple)):
        for part in value:
            found += containers(part)
    return found


def in_tuples(value):
    """A list as a tuple, where it is one of the lists that are passed."""
    return tuple(value) if isinstance(value, list) and value in (ROWS, TABLE, TABLE[1:], [1, 2, 3]) else value


def is_error(found):
    return isinstance(found, tuple) and bool(found) and isinstance(found[0], type)


class WholeTest(unittest.TestCase):
    def for_all(self, check):
        """Check each call, told by its function and a function that makes its arguments anew."""
        for file, functions in CALLS.items():
            for name, rows in functions.items():
                for arguments in rows:
                    with self.subTest(file=file, name=name, arguments=arguments):
                        check(getattr(importlib.import_module("oddcrowds." + file), name), arguments)

    def test_all_functions_are_asked(self):
        self.assertEqual({file: set(functions) for file, functions in CALLS.items()},
                         {file: set(functions) for file, functions in FUNCTIONS.items()})

    def test_the_same_again(self):
        def check(function, arguments):
            passed = made(arguments)
            first = outcome(function, passed)
            self.assertEqual(outcome(function, passed), first)
            self.assertEqual(outcome(function, made(arguments)), first)
        self.for_all(check)

    def test_nothing_is_modified(self):
        def check(function, arguments):
            passed = made(arguments)
            outcome(function, passed)
            self.assertEqual(passed, made(arguments))
        self.for_all(check)

    def test_nothing_is_shared(self):
        def check(function, arguments):
            passed = made(arguments)
            first, second = outcome(function, passed), outcome(function, passed)
            if is_error(first):
                return
            found = containers(first) + containers(second)
            self.assertEqual(len({id(part) for part in found}), len(found))
            self.assertEqual({id(part) for part in found} & {id(part) for part in containers(passed)}, set())
            for part in containers(first):
                part.clear()
            self.assertEqual(outcome(function, passed), second)
        self.for_all(check)

    def test_tuples_in_the_place_of_lists(self):
        def check(function, arguments):
            passed = made(arguments)
            self.assertEqual(outcome(function, [in_tuples(value) for value in passed]), outcome(function, passed))
        self.for_all(check)

    def test_truth_is_told_by_True_and_False(self):
        asked = ("is_", "has_", "can_", "are_", "leads", "comes_from", "judge_lead")

        def check(function, arguments):
            found = outcome(function, made(arguments))
            if not is_error(found):
                self.assertEqual(isinstance(found, bool), function.__name__.startswith(asked))
        self.for_all(check)

    def test_houses_and_consoles(self):
        acts = [("goal", GOAL), ("call", "ann", 1)]
        house = House(one())
        house.tried(acts)
        acts.clear()
        self.assertEqual(house.done(), [("goal", GOAL), ("call", "ann", 1)])
        house.keep("a")
        for name in ["done", "undone", "callers_on", "marks"]:
            self.assertIsNot(getattr(house, name)(), getattr(house, name)())
        self.assertEqual(house.tried(()), 2)
        self.assertEqual(house.would((("call", "cid", 1),)), house.would([("call", "cid", 1)]))
        self.assertIs(Console(house).house(), house)


if __name__ == "__main__":
    unittest.main()
