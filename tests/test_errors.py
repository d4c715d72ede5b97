"""The classes of refusals."""

import unittest

from weave import errors

PLAIN = (
    "NoStock", "NoNet", "NoRule", "NoPlace", "Shared", "TooMany", "NoFall", "NoJoin", "NoName", "NoDeed", "NoAsk",
)
WITH_AT = ("NoText", "NoRow", "NoRoad")
WITH_NAME = ("Twice", "NoThing")


class ErrorsTest(unittest.TestCase):
    def test_weave_error_stands_straight_under_value_error(self):
        self.assertEqual(errors.WeaveError.__bases__, (ValueError,))

    def test_each_class_stands_straight_under_weave_error(self):
        for word in PLAIN + WITH_AT + WITH_NAME:
            with self.subTest(word):
                self.assertEqual(getattr(errors, word).__bases__, (errors.WeaveError,))

    def test_there_is_no_other_class(self):
        told = {word for word in dir(errors) if isinstance(getattr(errors, word), type)}
        self.assertEqual(told, {"WeaveError", *PLAIN, *WITH_AT, *WITH_NAME})

    def test_plain_classes_are_raised_without_fields(self):
        for word in PLAIN:
            kind = getattr(errors, word)
            with self.subTest(word):
                self.assertFalse(hasattr(kind("why"), "at"))
                self.assertFalse(hasattr(kind("why"), "name"))
                with self.assertRaises(errors.WeaveError):
                    raise kind("why")

    def test_at_is_set_when_the_object_is_created(self):
        for word in WITH_AT:
            for at in (0, 7):
                with self.subTest(word=word, at=at):
                    self.assertEqual(getattr(errors, word)(at).at, at)

    def test_name_is_set_when_the_object_is_created(self):
        for word in WITH_NAME:
            for name in ("add", ""):
                with self.subTest(word=word, name=name):
                    self.assertEqual(getattr(errors, word)(name).name, name)


if __name__ == "__main__":
    unittest.main()
