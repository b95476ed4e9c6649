"""The errors of the interface."""

import unittest

from stripestack import errors

ATTRIBUTES = {
    "BadSchema": "why",
    "BadRecord": "why",
    "BadLayout": "why",
    "BadColumns": "why",
    "BadFile": "part",
    "NoColumn": "path",
    "BadCondition": "why",
    "NoFit": "path",
}
ARGUMENTS = ("fields", "", (), ("tags", "key"))


class ErrorsTest(unittest.TestCase):
    def test_refused_is_a_value_error(self):
        self.assertTrue(issubclass(errors.Refused, ValueError))

    def test_each_error_is_a_direct_subclass_of_refused(self):
        for name in ATTRIBUTES:
            with self.subTest(name=name):
                self.assertEqual(getattr(errors, name).__bases__, (errors.Refused,))

    def test_each_error_stands_in_the_file_of_the_interface(self):
        for name in [*ATTRIBUTES, "Refused"]:
            with self.subTest(name=name):
                self.assertEqual(getattr(errors, name).__module__, "stripestack.errors")
                self.assertEqual(getattr(errors, name).__name__, name)

    def test_each_error_keeps_its_argument(self):
        for name, attribute in ATTRIBUTES.items():
            for argument in ARGUMENTS:
                with self.subTest(name=name, argument=argument):
                    error = getattr(errors, name)(argument)
                    self.assertEqual(getattr(error, attribute), argument)
                    self.assertEqual(vars(error), {attribute: argument})

    def test_each_error_takes_its_argument_by_name(self):
        for name, attribute in ATTRIBUTES.items():
            with self.subTest(name=name):
                error = getattr(errors, name)(**{attribute: "word"})
                self.assertEqual(getattr(error, attribute), "word")

    def test_each_error_is_caught_as_refused(self):
        for name in ATTRIBUTES:
            with self.subTest(name=name):
                with self.assertRaises(errors.Refused):
                    raise getattr(errors, name)("word")


if __name__ == "__main__":
    unittest.main()
