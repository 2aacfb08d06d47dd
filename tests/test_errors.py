import unittest

from pipeworks import errors
from pipeworks.errors import FlowError, NoStation, NoWidth, OneStation

REFUSALS = (NoStation, NoWidth, OneStation)


class ErrorClasses(unittest.TestCase):
    def test_names(self):
        self.assertEqual([kind.__name__ for kind in (FlowError,) + REFUSALS],
                         ["FlowError", "NoStation", "NoWidth", "OneStation"])

    def test_they_live_in_errors(self):
        for kind in (FlowError,) + REFUSALS:
            self.assertEqual(kind.__module__, "pipeworks.errors")
            self.assertIs(getattr(errors, kind.__name__), kind)

    def test_bases(self):
        self.assertEqual(FlowError.__bases__, (ValueError,))
        for kind in REFUSALS:
            self.assertEqual(kind.__bases__, (FlowError,))

    def test_each_is_a_value_error(self):
        for kind in (FlowError,) + REFUSALS:
            self.assertTrue(issubclass(kind, ValueError))
            with self.assertRaises(ValueError):
                raise kind("words")

    def test_each_refusal_is_taken_as_a_flow_error(self):
        for kind in REFUSALS:
            with self.assertRaises(FlowError):
                raise kind("words")

    def test_none_of_the_three_is_another(self):
        for kind in REFUSALS:
            for other in REFUSALS:
                self.assertEqual(issubclass(kind, other), kind is other)
                self.assertEqual(isinstance(kind("words"), other), kind is other)

    def test_the_class_above_is_none_of_the_three(self):
        for kind in REFUSALS:
            self.assertFalse(issubclass(FlowError, kind))

    def test_words_are_kept(self):
        for kind in (FlowError,) + REFUSALS:
            self.assertEqual(str(kind("some words")), "some words")


if __name__ == "__main__":
    unittest.main()
