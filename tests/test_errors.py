import unittest

from quiremarks import errors
from quiremarks.errors import BadValue, NotPossible, QuireError, TextError, TooLarge

BELOW = (BadValue, TooLarge, NotPossible, TextError)


class ErrorsTest(unittest.TestCase):
    def test_classes_derive_as_point_8_says(self):
        self.assertTrue(issubclass(QuireError, ValueError))
        self.assertEqual(QuireError.__bases__, (ValueError,))
        for error in BELOW:
            self.assertTrue(issubclass(error, QuireError))
            for other in BELOW:
                self.assertEqual(issubclass(error, other), error is other)

    def test_there_are_no_other_errors(self):
        found = [
            value for value in vars(errors).values() if isinstance(value, type) and issubclass(value, Exception)
        ]
        self.assertEqual(set(found), {QuireError, *BELOW})

    def test_attributes_are_those_of_the_interface(self):
        self.assertEqual(vars(BadValue("paper")), {"name": "paper"})
        self.assertEqual(vars(TooLarge("leaves")), {"what": "leaves"})
        self.assertEqual(vars(NotPossible("empty")), {"why": "empty"})
        error = TextError(9, "there is no such mark")
        self.assertEqual((error.column, error.words), (9, "there is no such mark"))

    def test_each_is_raised_and_caught_as_a_value_error(self):
        for error in (QuireError(), BadValue("a"), TooLarge("b"), NotPossible("c"), TextError(1, "d")):
            with self.assertRaises(QuireError) as caught:
                raise error
            self.assertIsInstance(caught.exception, ValueError)


if __name__ == "__main__":
    unittest.main()
