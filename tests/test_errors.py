"""The errors: their bases and their attributes."""

import unittest

from roundticks import errors
from tests.case import Case, anything, shape

PLAIN = ["NoWay", "Unlike", "TooGreat", "NothingDone"]
WITH_PATH = ["BadNetwork", "BadLead", "BadTable", "BadProgram"]
WITH_ONE = [("Gain", "ring"), ("BadText", "place"), ("BadAct", "word"), ("Conflict", "name"), ("UnknownName", "name")]


def error_class(name):
    return getattr(errors, name)


class Bases(Case):
    def test_tick_errors_have_one_base(self):
        self.assertEqual(errors.TickError.__bases__, (ValueError,))
        for name in PLAIN + WITH_PATH + ["Gain", "BadText", "BadAct", "Conflict"]:
            self.assertEqual(error_class(name).__bases__, (errors.TickError,), name)

    def test_missing_names_have_one_base(self):
        self.assertEqual(errors.NameMissing.__bases__, (LookupError,))
        self.assertEqual(errors.UnknownName.__bases__, (errors.NameMissing,))

    def test_the_two_families_are_apart(self):
        for error in (errors.NameMissing, errors.UnknownName):
            self.assertTrue(issubclass(error, LookupError))
            self.assertFalse(issubclass(error, errors.TickError))
            self.assertFalse(issubclass(error, ValueError))
        self.assertFalse(issubclass(errors.TickError, LookupError))

    def test_each_name_is_a_class_of_this_file(self):
        for name in PLAIN + WITH_PATH + [name for name, _ in WITH_ONE] + ["TickError", "NameMissing"]:
            self.assertEqual(error_class(name).__name__, name)
            self.assertEqual(error_class(name).__module__, "roundticks.errors")


class Attributes(Case):
    def test_errors_without_arguments(self):
        for name in PLAIN:
            with self.assertRaises(errors.TickError) as caught:
                raise error_class(name)()
            self.assertIs(type(caught.exception), error_class(name))

    def test_each_argument_is_kept_as_it_is(self):
        for name, attribute in WITH_ONE:
            for value in anything():
                before = shape(value)
                with self.assertRaises(error_class(name)) as caught:
                    raise error_class(name)(value)
                self.assertIs(getattr(caught.exception, attribute), value)
                self.assertEqual(shape(value), before)

    def test_a_path_is_kept_as_a_tuple(self):
        for name in WITH_PATH:
            for path in [(), [], (0,), [0], (1, 3, 2), [1, 3, 2], [0, 0], [0] * 50, (2, 1, 0), [5, 3, 3, 5]]:
                error = error_class(name)(path)
                self.assertEqual(shape(error.path), shape(tuple(path)))

    def test_a_path_keeps_all_members_of_all_kinds(self):
        for name in WITH_PATH:
            members = anything()
            error = error_class(name)(members)
            self.assertIs(type(error.path), tuple)
            self.assertEqual(len(error.path), len(members))
            for kept, member in zip(error.path, members):
                self.assertIs(kept, member)

    def test_a_path_does_not_follow_the_list(self):
        for name in WITH_PATH:
            path = [1, 2]
            error = error_class(name)(path)
            path.append(3)
            path[0] = 9
            self.assertEqual(error.path, (1, 2))


if __name__ == "__main__":
    unittest.main()
