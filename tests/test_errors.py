"""Points [1] and [2]: the errors, what they are and what they keep."""

import unittest

from playedlate import errors
from tests.samples import wrong_values

ATTRIBUTES = {
    "BadStandings": "value",
    "BadDeeds": "value",
    "BadLooks": "value",
    "NoStanding": "value",
    "NoDeed": "position",
    "BadPlan": "value",
    "BadEvent": "position",
    "NotNow": "value",
    "TooFar": "count",
    "BadSends": "value",
    "BadText": "line",
}


class ErrorsTest(unittest.TestCase):
    def each(self):
        """Each error but LateError, with the name of its attribute."""
        return [(getattr(errors, name), attribute) for name, attribute in ATTRIBUTES.items()]

    def test_late_error_is_a_value_error(self):
        self.assertEqual(errors.LateError.__bases__, (ValueError,))

    def test_the_others_are_direct_subclasses(self):
        for error, _ in self.each():
            self.assertEqual(error.__bases__, (errors.LateError,))

    def test_they_are_defined_in_their_file(self):
        self.assertEqual(errors.LateError.__module__, "playedlate.errors")
        for error, _ in self.each():
            self.assertEqual(error.__module__, "playedlate.errors")
            self.assertIn("__init__", vars(error))

    def test_they_keep_the_value_itself_whatever_it_is(self):
        for error, attribute in self.each():
            for value in wrong_values() + ["off"]:
                self.assertEqual(list(vars(error(value))), [attribute])
                self.assertIs(getattr(error(value), attribute), value)

    def test_the_argument_may_be_passed_by_name(self):
        for error, attribute in self.each():
            self.assertEqual(getattr(error(**{attribute: [7]}), attribute), [7])

    def test_they_are_made_with_one_argument(self):
        for error, _ in self.each():
            with self.assertRaises(TypeError):
                error()
            with self.assertRaises(TypeError):
                error(1, 2)

    def test_they_are_raised_and_caught_by_name(self):
        for error, attribute in self.each():
            with self.assertRaises(errors.LateError) as caught:
                raise error("off")
            self.assertEqual(getattr(caught.exception, attribute), "off")


if __name__ == "__main__":
    unittest.main()
