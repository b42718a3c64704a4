"""The names and arguments of the interface, each defined in the file under which it is listed."""

import ast
import pathlib
import unittest

PACKAGE = pathlib.Path(__file__).resolve().parent.parent / "oddcrowds"

# For each file the functions and classes with their arguments; for a class also its methods.
FUNCTIONS = {
    "words": {"is_word": 1, "is_integer": 1, "is_number": 1},
    "standings": {"are_like": 2, "moved_person": 3, "voiced": 3, "without_person": 2, "with_person": 2,
                  "turned_standing": 1, "shifted_standing": 2},
    "lexemes": {"lexemes": 1},
    "standtexts": {"standing_text": 1, "read_standing": 1},
    "gaps": {"gaps": 1, "odd_sum": 1, "even_sum": 1},
    "heights": {"height_at": 2, "greatest_height": 1, "greatest_fall": 1, "loud_places": 1},
    "sums": {"voice_places": 1, "turn_sum": 1},
    "levels": {"places_at": 2, "least_height": 1, "count_above": 2},
    "calls": {"is_loud": 2, "can_call": 2, "called": 2, "callers": 1, "is_quiet": 1, "times_of": 2},
    "scripts": {"standings_along": 2, "walked": 2, "first_bad": 2, "calls_of": 1, "script_text": 1, "read_script": 1},
    "plainwalks": {"reached": 1, "numbers_by_walks": 2, "script_by_walks": 3},
    "backs": {"count_back": 1, "back_standings": 1, "comes_from": 2},
    "meeting": {"meeting_place": 1, "call_numbers": 1, "share_of": 2},
    "meetscripts": {"meet_script": 2, "judge_meeting": 2},
    "parting": {"left_calls": 1, "widths": 1, "is_end": 2, "end_of_width": 2},
    "ends": {"count_ends": 1, "is_settled": 1, "all_ends": 1},
    "endnumbers": {"end_at": 2, "end_number": 2, "next_end": 2, "drawn_end": 2},
    "endcounts": {"counts_by_width": 1, "counts_by_place": 1},
    "twins": {"has_common_end": 2, "common_end": 2},
    "leading": {"leads": 2, "all_bounds": 2, "lead_bounds": 2, "lead_paper": 2, "judge_lead": 3},
    "leadscripts": {"lead_script": 3, "judge_script": 3, "is_tidy": 2, "tidy_script": 2},
    "prices": {"price_of": 3, "lead_prices": 3, "cheapest_script": 3},
    "choosing": {"callers_on": 2, "callers_barring": 2, "lost_by": 3, "fewest_callers": 2, "most_callers": 2},
    "between": {"is_between": 3, "all_between": 2, "nearest_of": 2},
    "lastcalls": {"last_calls": 1, "last_script": 2},
    "allloud": {"free_called": 2, "free_numbers": 1, "free_numbers_at": 2, "can_meet_free": 3, "free_paper": 3},
    "freescripts": {"free_walked": 2, "free_script": 3, "judge_free": 4},
    "freeleads": {"free_lead_numbers": 2, "free_lead_script": 3},
    "freehistories": {"count_free": 2, "free_counts": 2, "is_free_history": 3},
    "histories": {"count_histories": 2, "counts_by_calls": 2, "is_history": 3},
    "historynumbers": {"history_at": 3, "history_number": 3, "next_history": 3, "drawn_history": 3},
    "falltables": {"fall_table": 2, "judge_table": 3, "count_with": 3, "table_history": 3},
    "tablelists": {"fall_tables": 2},
    "exchanges": {"can_exchange": 3, "are_alike": 3, "exchange_path": 3},
    "wishes": {"wished_steps": 2, "wished_voices": 2, "places_by_voices": 1, "judge_wish": 3},
    "goals": {"left_to": 2, "wastes": 4},
    "acts": {"act_word": 2, "state_after": 2},
}
CLASSES = {
    "standings": {"Standing": {"__init__": 1, "people": 0, "names": 0, "place": 1, "voice": 1, "has_name": 1,
                               "places": 0, "at": 1, "line": 0, "voices": 0, "is_together": 0, "__eq__": 1}},
    "errors": {"CrowdError": {}, "UnlikePeople": {}, "EvenVoices": {}, "OddVoices": {}, "TooGreat": {},
               "NothingDone": {}, "BadStanding": {"__init__": 1}, "NoLead": {"__init__": 1},
               "BadCall": {"__init__": 1}, "BadNumber": {"__init__": 2}, "BadText": {"__init__": 1},
               "BadAct": {"__init__": 1}, "NameMissing": {}, "UnknownName": {"__init__": 1}},
    "house": {"House": {"__init__": 1, "standing": 0, "goal": 0, "state": 0, "do": 1, "undo": 0, "redo": 0, "done": 0,
                        "undone": 0, "tried": 1, "would": 1, "made": 0, "meets": 0, "parts": 0, "least_left": 0,
                        "most_left": 0, "early_waste": 0, "late_waste": 0, "callers_on": 0, "keep": 1, "marks": 0,
                        "marked": 1, "left_to_mark": 1, "twin": 0, "__eq__": 1}},
    "console": {"Console": {"__init__": 1, "house": 0, "say": 1}},
}


def parts(file):
    return ast.parse((PACKAGE / (file + ".py")).read_text(encoding="utf-8")).body


def arguments(function):
    return len(function.args.args)


class InterfaceTest(unittest.TestCase):
    def test_functions(self):
        for file, listed in FUNCTIONS.items():
            found = {part.name: arguments(part) for part in parts(file) if isinstance(part, ast.FunctionDef)}
            for name, count in listed.items():
                with self.subTest(file, name=name):
                    self.assertEqual(found.get(name), count)

    def test_classes_and_their_methods(self):
        for file, listed in CLASSES.items():
            found = {part.name: part for part in parts(file) if isinstance(part, ast.ClassDef)}
            for name, methods in listed.items():
                with self.subTest(file, name=name):
                    self.assertIn(name, found)
                    own = {part.name: arguments(part) - 1 for part in found[name].body
                           if isinstance(part, ast.FunctionDef)}
                    self.assertEqual({method: own.get(method) for method in methods}, methods)


if __name__ == "__main__":
    unittest.main()
