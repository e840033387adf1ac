import unittest

from farend import errors
from farend.errors import FarError, NoBack, NoJob, NoLine, NoOrder, NoSize, NoText, NoTurn, NoYard

WITH_FIELD = [NoTurn, NoText]
WITH_TEXT = [NoOrder, NoSize, NoBack, NoJob, NoYard, NoLine]


class ErrorsTest(unittest.TestCase):
    def test_far_error_stands_right_under_value_error(self):
        self.assertEqual(FarError.__bases__, (ValueError,))

    def test_each_stands_right_under_far_error(self):
        for kind in WITH_FIELD + WITH_TEXT:
            self.assertEqual(kind.__bases__, (FarError,), kind)
            self.assertEqual(kind.__module__, errors.__name__)

    def test_none_is_another_one(self):
        for kind in WITH_FIELD + WITH_TEXT:
            for other in WITH_FIELD + WITH_TEXT:
                self.assertEqual(issubclass(kind, other), kind is other)

    def test_fields_are_set_on_each_object(self):
        first, second = NoTurn(0), NoTurn(7)
        self.assertEqual((first.place, second.place), (0, 7))
        first, second = NoText(3), NoText(0)
        self.assertEqual((first.line, second.line), (3, 0))

    def test_fields_are_whole_numbers_as_handed_in(self):
        self.assertIs(type(NoTurn(4).place), int)
        self.assertIs(type(NoText(4).line), int)
        self.assertNotIn("place", vars(NoTurn))
        self.assertNotIn("line", vars(NoText))

    def test_made_of_a_text(self):
        for kind in WITH_TEXT:
            self.assertEqual(str(kind("why not")), "why not")

    def test_raised_and_caught(self):
        for kind in WITH_TEXT:
            with self.assertRaises(FarError):
                raise kind("no")
            with self.assertRaises(ValueError):
                raise kind("no")
        for kind in WITH_FIELD:
            with self.assertRaises(FarError):
                raise kind(2)
            with self.assertRaises(ValueError):
                raise kind(2)


if __name__ == "__main__":
    unittest.main()
