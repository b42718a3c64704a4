import unittest

from oddcrowds import errors
from values import anything

# Each class of the document's list, with the names of its arguments and its only base.
LISTED = {
    "CrowdError": (None, ValueError),
    "UnlikePeople": ((), errors.CrowdError),
    "EvenVoices": ((), errors.CrowdError),
    "OddVoices": ((), errors.CrowdError),
    "TooGreat": ((), errors.CrowdError),
    "NothingDone": ((), errors.CrowdError),
    "BadStanding": (("path",), errors.CrowdError),
    "NoLead": (("paper",), errors.CrowdError),
    "BadCall": (("number",), errors.CrowdError),
    "BadNumber": (("least", "most"), errors.CrowdError),
    "BadText": (("place",), errors.CrowdError),
    "BadAct": (("word",), errors.CrowdError),
    "NameMissing": (None, LookupError),
    "UnknownName": (("name",), errors.NameMissing),
}


def made(name, arguments):
    return getattr(errors, name)(*arguments)


class ErrorsTest(unittest.TestCase):
    def test_bases(self):
        for name, (_, base) in LISTED.items():
            with self.subTest(name):
                self.assertEqual(getattr(errors, name).__bases__, (base,))

    def test_the_two_families_are_apart(self):
        self.assertTrue(issubclass(errors.CrowdError, ValueError))
        self.assertFalse(issubclass(errors.CrowdError, LookupError))
        self.assertTrue(issubclass(errors.UnknownName, LookupError))
        self.assertFalse(issubclass(errors.NameMissing, ValueError))
        self.assertFalse(issubclass(errors.NameMissing, errors.CrowdError))

    def test_each_error_is_of_its_own_class_alone(self):
        leaves = [name for name, (arguments, _) in LISTED.items() if arguments is not None]
        for name in leaves:
            error = made(name, [()] * len(LISTED[name][0]))
            for other in leaves:
                with self.subTest(name, other=other):
                    self.assertEqual(isinstance(error, getattr(errors, other)), name == other)

    def test_each_error_is_raised_and_caught_by_its_base(self):
        for name, (arguments, base) in LISTED.items():
            with self.subTest(name):
                with self.assertRaises(base) as caught:
                    raise made(name, [(1, 2)] * len(arguments or ()))
                self.assertIs(caught.exception.__class__, getattr(errors, name))

    def test_arguments_are_kept_as_they_are(self):
        for name, (arguments, _) in LISTED.items():
            if not arguments or arguments == ("path",):
                continue
            for value in anything():
                given = [value] + ["most"] * (len(arguments) - 1)
                error = made(name, given)
                with self.subTest(name, value=value):
                    for argument, part in zip(arguments, given):
                        self.assertIs(getattr(error, argument), part)
                    self.assertEqual(list(vars(error)), list(arguments))

    def test_numbers_keep_their_sequence(self):
        error = errors.BadNumber(3, 5)
        self.assertEqual((error.least, error.most), (3, 5))

    def test_errors_without_arguments_have_no_attributes(self):
        for name, (arguments, _) in LISTED.items():
            if not arguments:
                with self.subTest(name):
                    self.assertEqual(vars(made(name, ())), {})

    def test_path_is_kept_as_a_tuple(self):
        for path in [(), [], (3,), [3], (3, 1), [3, 1], ["a", None, [1]], (True, {})]:
            with self.subTest(path=path):
                error = errors.BadStanding(path)
                self.assertIs(error.path.__class__, tuple)
                self.assertEqual(error.path, tuple(path))
                self.assertEqual(vars(error), {"path": tuple(path)})

    def test_path_does_not_change_with_the_list(self):
        path = [1, 2]
        error = errors.BadStanding(path)
        path.append(3)
        self.assertEqual(error.path, (1, 2))
        self.assertEqual(path, [1, 2, 3])


if __name__ == "__main__":
    unittest.main()
