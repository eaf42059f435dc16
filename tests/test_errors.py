"""The interface's row "errors"."""

import unittest

from everalike import errors

WITH_TEXT = (
    "NoWeb", "NoLot", "NoName", "NoKind", "NoPair", "NoChanges", "NoCount", "NoShut", "NoWay", "NoJoint", "NoSide",
    "NoDeed",
)


class Errors(unittest.TestCase):

    def test_web_error_is_a_value_error(self):
        self.assertEqual(errors.WebError.__bases__, (ValueError,))
        self.assertEqual(str(errors.WebError("why")), "why")

    def test_each_is_straight_under_web_error(self):
        for name in WITH_TEXT + ("TooMany", "NoText"):
            with self.subTest(name=name):
                self.assertEqual(getattr(errors, name).__bases__, (errors.WebError,))
                self.assertEqual(getattr(errors, name).__name__, name)

    def test_those_with_a_text(self):
        for name in WITH_TEXT:
            with self.subTest(name=name):
                error = getattr(errors, name)
                with self.assertRaises(errors.WebError) as caught:
                    raise error("some text")
                self.assertIs(type(caught.exception), error)
                self.assertEqual(str(caught.exception), "some text")

    def test_too_many_by_place_and_by_name(self):
        made = (
            errors.TooMany(13, 12), errors.TooMany(13, most=12), errors.TooMany(many=13, most=12),
            errors.TooMany(most=12, many=13),
        )
        for error in made:
            self.assertEqual((error.many, error.most), (13, 12))
            self.assertIsInstance(str(error), str)
        with self.assertRaises(errors.WebError):
            raise errors.TooMany(6, 5)

    def test_no_text_by_place_and_by_name(self):
        for error in (errors.NoText(4), errors.NoText(place=4)):
            self.assertEqual(error.place, 4)
            self.assertIsInstance(str(error), str)
        self.assertEqual(errors.NoText(0).place, 0)
        with self.assertRaises(errors.WebError):
            raise errors.NoText(1)

    def test_fields_are_each_errors_own(self):
        first, second = errors.TooMany(13, 12), errors.TooMany(11, 10)
        self.assertEqual((first.many, first.most, second.many, second.most), (13, 12, 11, 10))


if __name__ == "__main__":
    unittest.main()
