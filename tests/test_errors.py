"""The errors: their attributes and their base classes."""

import unittest

from blameless.errors import BadInterface, BadText, BadTrace, BlameError, TooLarge

WITH_AT = (BadText, BadInterface, BadTrace)
ALL = WITH_AT + (TooLarge,)


class ErrorsTest(unittest.TestCase):
    def test_at_is_set_on_creation(self):
        for error in WITH_AT:
            for at in (0, 1, 8, 70000):
                with self.subTest(error=error.__name__, at=at):
                    self.assertEqual(error(at).at, at)
                    self.assertEqual(vars(error(at)), {"at": at})

    def test_at_by_keyword(self):
        for error in WITH_AT:
            with self.subTest(error=error.__name__):
                self.assertEqual(error(at=3).at, 3)

    def test_what_is_a_string_and_set_on_creation(self):
        for what in ("memory", "trace"):
            with self.subTest(what=what):
                self.assertEqual(TooLarge(what).what, what)
                self.assertIs(type(TooLarge(what).what), str)
                self.assertEqual(vars(TooLarge(what)), {"what": what})
        self.assertEqual(TooLarge(what="memory").what, "memory")

    def test_two_errors_keep_their_own_attributes(self):
        first, second = BadText(1), BadText(2)
        self.assertEqual((first.at, second.at), (1, 2))

    def test_blame_error_is_a_value_error(self):
        self.assertTrue(issubclass(BlameError, ValueError))
        self.assertEqual(BlameError.__bases__, (ValueError,))

    def test_blame_error_is_the_base_class_of_each(self):
        for error in ALL:
            with self.subTest(error=error.__name__):
                self.assertEqual(error.__bases__, (BlameError,))

    def test_none_is_a_base_class_of_another(self):
        for error in ALL:
            for other in ALL:
                with self.subTest(error=error.__name__, other=other.__name__):
                    self.assertEqual(issubclass(error, other), error is other)

    def test_each_is_caught_by_its_base_classes_only(self):
        made = (BadText(0), BadInterface(0), BadTrace(0), TooLarge("trace"))
        for error in made:
            with self.subTest(error=error):
                self.assertIsInstance(error, BlameError)
                self.assertIsInstance(error, ValueError)
                self.assertEqual([isinstance(error, other) for other in ALL].count(True), 1)


if __name__ == "__main__":
    unittest.main()
