"""Point [24]: the errors."""

import unittest

from wholeflow import errors

WITH_ARGUMENT = (
    ("BadValue", "at", 3), ("BadText", "at", 0), ("BadRow", "at", 7), ("BadGrounds", "at", 2),
    ("NoMove", "at", 5), ("Doubled", "place", 4), ("Unsound", "word", "stuck"),
    ("NoRight", "act", "grant"), ("NotNow", "status", "ended"),
    ("NoFlow", "flow", "letter"), ("NoInstance", "number", 8),
)
WITHOUT_ARGUMENT = ("Late", "TooMany")


class ErrorsTest(unittest.TestCase):

    def test_base_class(self):
        self.assertEqual(errors.FlowError.__bases__, (Exception,))

    def test_there_are_thirteen(self):
        names = [name for name, _, _ in WITH_ARGUMENT] + list(WITHOUT_ARGUMENT)
        self.assertEqual(len(names), 13)
        told = [error.__name__ for error in errors.FlowError.__subclasses__()]
        self.assertEqual(sorted(told), sorted(names))

    def test_direct_subclasses_with_no_other_base(self):
        for error in errors.FlowError.__subclasses__():
            self.assertEqual(error.__bases__, (errors.FlowError,))
            self.assertEqual(error.__module__, "wholeflow.errors")

    def test_argument_is_kept_by_position_and_by_name(self):
        for name, attribute, value in WITH_ARGUMENT:
            error = getattr(errors, name)
            self.assertEqual(getattr(error(value), attribute), value, name)
            self.assertEqual(getattr(error(**{attribute: value}), attribute), value, name)

    def test_argument_is_needed(self):
        for name, _, _ in WITH_ARGUMENT:
            with self.assertRaises(TypeError):
                getattr(errors, name)()

    def test_the_very_thing_passed_is_kept(self):
        thing = [1, [2, None]]
        self.assertIs(errors.NoFlow(thing).flow, thing)
        self.assertIs(errors.NoInstance(thing).number, thing)
        self.assertIs(errors.NoFlow(True).flow, True)

    def test_no_argument(self):
        for name in WITHOUT_ARGUMENT:
            error = getattr(errors, name)()
            self.assertIsInstance(error, errors.FlowError)
            self.assertEqual(vars(error), {})

    def test_caught_by_the_base_class(self):
        for name, _, value in WITH_ARGUMENT:
            with self.assertRaises(errors.FlowError):
                raise getattr(errors, name)(value)


if __name__ == "__main__":
    unittest.main()
