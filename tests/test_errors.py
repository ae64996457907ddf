"""The interface of laidmarks.errors."""

import unittest

from laidmarks import errors

WITH_A_TEXT = (
    "NoSea", "NoCell", "NoDraught", "NoDay", "NoNotices", "NoNumber", "NoMark", "NoChannel",
    "NoSightings", "NoFairway", "NoSide", "NoColumns", "NoLine", "There", "Nothing",
)
WITH_FIELDS = ("Unlike", "NoText", "TooMany")


class ErrorClasses(unittest.TestCase):
    def test_any_refusal_is_a_value_error(self):
        self.assertEqual(errors.MarkError.__bases__, (ValueError,))

    def test_each_class_stands_straight_under_mark_error(self):
        for name in WITH_A_TEXT + WITH_FIELDS:
            with self.subTest(name):
                self.assertEqual(getattr(errors, name).__bases__, (errors.MarkError,))

    def test_no_two_names_are_one_class(self):
        classes = {getattr(errors, name) for name in WITH_A_TEXT + WITH_FIELDS}
        self.assertEqual(len(classes), len(WITH_A_TEXT + WITH_FIELDS))

    def test_made_with_a_text_and_raised(self):
        for name in WITH_A_TEXT:
            with self.subTest(name), self.assertRaises(errors.MarkError) as caught:
                raise getattr(errors, name)("some words")
            self.assertEqual(type(caught.exception).__name__, name)


class ErrorFields(unittest.TestCase):
    def test_unlike(self):
        self.assertEqual(errors.Unlike(7).number, 7)

    def test_no_text(self):
        self.assertEqual(errors.NoText(0).row, 0)
        self.assertEqual(errors.NoText(31).row, 31)

    def test_too_many(self):
        error = errors.TooMany(31, 30)
        self.assertEqual((error.many, error.most), (31, 30))

    def test_each_object_has_its_own(self):
        first, second = errors.TooMany(31, 30), errors.TooMany(5, 4)
        self.assertEqual((first.many, first.most, second.many, second.most), (31, 30, 5, 4))

    def test_raised_with_fields(self):
        with self.assertRaises(errors.MarkError) as caught:
            raise errors.Unlike(99)
        self.assertEqual(caught.exception.number, 99)

    def test_words_can_be_asked(self):
        for error in (errors.Unlike(1), errors.NoText(2), errors.TooMany(3, 2)):
            self.assertIsInstance(str(error), str)


if __name__ == "__main__":
    unittest.main()
