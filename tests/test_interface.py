"""The names and arguments of the interface, each defined in the file under which it is listed."""

import ast
import pathlib
import unittest

PACKAGE = pathlib.Path(__file__).resolve().parent.parent / "oddcrowds"

# For each file the functions and classes with their arguments; for a class also its methods.
FUNCTIONS = {
    "words": {"is_word": 1, "is_integer": 1, "is_number": 1},
    "standings": {"are_like": 2, "moved_person": 3, "voiced": 3, "without_person": 2, "with_person": 2,
                  "turned_standing": 1, "shifted_standing": 2},
    "lexemes": {"lexemes": 1},
    "standtexts": {"standing_text": 1, "read_standing": 1},
    "gaps": {"gaps": 1, "odd_sum": 1, "even_sum": 1},
}
CLASSES = {
    "standings": {"Standing": {"__init__": 1, "people": 0, "names": 0, "place": 1, "voice": 1, "has_name": 1,
                               "places": 0, "at": 1, "line": 0, "voices": 0, "is_together": 0, "__eq__": 1}},
    "errors": {"CrowdError": {}, "UnlikePeople": {}, "EvenVoices": {}, "OddVoices": {}, "TooGreat": {},
               "NothingDone": {}, "BadStanding": {"__init__": 1}, "NoLead": {"__init__": 1},
               "BadCall": {"__init__": 1}, "BadNumber": {"__init__": 2}, "BadText": {"__init__": 1},
               "BadAct": {"__init__": 1}, "NameMissing": {}, "UnknownName": {"__init__": 1}},
}


def parts(file):
    return ast.parse((PACKAGE / (file + ".py")).read_text(encoding="utf-8")).body


def arguments(function):
    return len(function.args.args)


class InterfaceTest(unittest.TestCase):
    def test_functions(self):
        for file, listed in FUNCTIONS.items():
            found = {part.name: arguments(part) for part in parts(file) if isinstance(part, ast.FunctionDef)}
            for name, count in listed.items():
                with self.subTest(file, name=name):
                    self.assertEqual(found.get(name), count)

    def test_classes_and_their_methods(self):
        for file, listed in CLASSES.items():
            found = {part.name: part for part in parts(file) if isinstance(part, ast.ClassDef)}
            for name, methods in listed.items():
                with self.subTest(file, name=name):
                    self.assertIn(name, found)
                    own = {part.name: arguments(part) - 1 for part in found[name].body
                           if isinstance(part, ast.FunctionDef)}
                    self.assertEqual({method: own.get(method) for method in methods}, methods)


if __name__ == "__main__":
    unittest.main()
