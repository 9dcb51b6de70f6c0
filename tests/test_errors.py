"""Tests of lettersonce.errors."""

import unittest

from lettersonce import errors

NAMES = ["BadBody", "BadLetter", "BadMail", "BadValue", "Contradiction", "Down", "Exists", "NotKeeper", "NotMember",
         "Unknown"]


class Errors(unittest.TestCase):
    def test_room_error_is_a_value_error(self):
        self.assertEqual(errors.RoomError.__bases__, (ValueError,))

    def test_each_error_derives_from_room_error_alone(self):
        for name in NAMES:
            with self.subTest(name):
                self.assertEqual(getattr(errors, name).__bases__, (errors.RoomError,))
                self.assertEqual(getattr(errors, name).__name__, name)

    def test_none_is_a_base_class_of_another(self):
        for name in NAMES:
            for other in NAMES:
                with self.subTest(f"{name} and {other}"):
                    self.assertEqual(issubclass(getattr(errors, name), getattr(errors, other)), name == other)

    def test_each_can_be_raised_with_words_and_caught_by_its_bases(self):
        for name in NAMES + ["RoomError"]:
            for base in [getattr(errors, name), errors.RoomError, ValueError]:
                with self.subTest(f"{name} as {base.__name__}"), self.assertRaises(base) as caught:
                    raise getattr(errors, name)("the words")
                self.assertEqual(str(caught.exception), "the words")

    def test_two_errors_have_no_effect_on_each_other(self):
        first, second = errors.BadMail("one"), errors.BadMail("two")
        self.assertEqual((str(first), str(second)), ("one", "two"))


if __name__ == "__main__":
    unittest.main()
