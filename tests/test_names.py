"""Tests of lettersonce.names: points 1.1 to 1.4."""

import re
import unittest

from lettersonce.names import is_name, is_number, is_ref, is_room, is_text, is_title

from samples import GREATEST, TouchyText, TouchyTuple, odd_things

CHARACTERS = [chr(code) for code in range(300)] + ["\u0661", "\u2028", "\uff41", "\U0001f600"]
PRINTED = [chr(code) for code in range(ord(" "), ord("~") + 1)]
CHECKS = [is_name, is_number, is_text, is_title, is_ref, is_room]


def names_by_pattern(thing):
    return re.fullmatch("[a-z][a-z0-9]{0,11}", thing, re.ASCII) is not None


class AnyObject(unittest.TestCase):
    def test_an_odd_thing_is_nothing(self):
        for check in CHECKS:
            for index, thing in enumerate(odd_things()):
                with self.subTest(f"{check.__name__} of odd thing {index}"):
                    self.assertIs(check(thing), False)

    def test_objects_of_classes_of_their_own_give_true_or_false(self):
        things = [TouchyText("anna"), TouchyTuple(("anna", 1)), (TouchyText("anna"), 1), (TouchyText("anna"), "tea"),
                  ("anna", TouchyText("tea"))]
        for check in CHECKS:
            for index, thing in enumerate(things):
                with self.subTest(f"{check.__name__} of thing {index}"):
                    self.assertIn(check(thing), (True, False))

    def test_what_is_passed_stays(self):
        for check in CHECKS:
            for thing in (["anna", 3], {"anna": 3}, [["anna"]]):
                before = repr(thing)
                check(thing)
                self.assertEqual(repr(thing), before)


class IsName(unittest.TestCase):
    def test_names_of_0_to_15_characters(self):
        for length in range(16):
            for text in ("a" * length, "z" * length, "bert7777777777777"[:length], "q0000000000000009"[:length]):
                with self.subTest(text):
                    self.assertIs(is_name(text), 1 <= length <= 12)

    def test_each_character_in_front(self):
        for character in CHARACTERS:
            for rest in ("", "a", "7", "bcdefghijkl"):
                with self.subTest(repr(character + rest)):
                    self.assertIs(is_name(character + rest), character in "abcdefghijklmnopqrstuvwxyz")

    def test_each_character_at_each_other_place(self):
        for length in (2, 3, 7, 12):
            for place in range(1, length):
                for character in CHARACTERS:
                    text = "b" * place + character + "5" * (length - place - 1)
                    with self.subTest(repr(text)):
                        self.assertIs(is_name(text), character in "abcdefghijklmnopqrstuvwxyz0123456789")

    def test_a_newline_or_a_tab_at_any_place(self):
        for length in range(12):
            for place in range(length + 1):
                for sign in "\n\t":
                    text = "anna12345678"[:place] + sign + "anna12345678"[place:length]
                    with self.subTest(repr(text)):
                        self.assertIs(is_name(text), False)

    def test_short_strings_by_a_pattern(self):
        signs = "az09A_ \n"
        strings = [""] + [one + two + three for one in signs for two in signs for three in ["", *signs]]
        for text in strings:
            with self.subTest(repr(text)):
                self.assertIs(is_name(text), names_by_pattern(text))


class IsNumber(unittest.TestCase):
    def test_from_1_to_the_greatest(self):
        for number in (1, 2, 9, 10, 999, 2 ** 31, 2 ** 53 + 1, GREATEST - 1, GREATEST):
            with self.subTest(number):
                self.assertIs(is_number(number), True)

    def test_below_and_above(self):
        for number in (0, -1, -2, -GREATEST, GREATEST + 1, 2 ** 63, 10 ** 19, 10 ** 500):
            with self.subTest(number):
                self.assertIs(is_number(number), False)

    def test_true_false_and_what_is_no_integer(self):
        for thing in (True, False, "1", "12", "", 1.0, 5.5, None, [1], (1,), b"1"):
            with self.subTest(repr(thing)):
                self.assertIs(is_number(thing), False)


class IsTitleAndIsText(unittest.TestCase):
    def test_lengths(self):
        for length in (0, 1, 2, 59, 60, 61, 399, 400, 401, 1000):
            for sign in " ~a7|.":
                with self.subTest(f"{length} times {sign!r}"):
                    self.assertIs(is_title(sign * length), length <= 60)
                    self.assertIs(is_text(sign * length), 1 <= length <= 400)
            with self.subTest(f"{length} tabs"):
                self.assertIs(is_title("\t" * length), length == 0)
                self.assertIs(is_text("\t" * length), False)
            with self.subTest(f"{length} newlines"):
                self.assertIs(is_title("\n" * length), length == 0)
                self.assertIs(is_text("\n" * length), 1 <= length <= 400)

    def test_each_character_at_each_place(self):
        for character in CHARACTERS:
            for text in (character, character + "ab", "a" + character + "b", "ab" + character):
                with self.subTest(repr(text)):
                    self.assertIs(is_title(text), character in PRINTED)
                    self.assertIs(is_text(text), character in PRINTED or character == "\n")

    def test_a_wrong_character_at_the_end_of_the_longest(self):
        self.assertIs(is_title("a" * 59 + "\n"), False)
        self.assertIs(is_title("a" * 59 + "\t"), False)
        self.assertIs(is_text("a" * 399 + "\t"), False)
        self.assertIs(is_text("a" * 399 + "\n"), True)
        self.assertIs(is_text("a" * 400 + "\n"), False)

    def test_what_is_no_string(self):
        for thing in (["a"], ("a",), b"a", 7, None, {"a": 1}):
            with self.subTest(repr(thing)):
                self.assertIs(is_title(thing), False)
                self.assertIs(is_text(thing), False)


class IsRef(unittest.TestCase):
    def test_a_name_and_a_number(self):
        for ref in (("anna", 3), ("a", 1), ("z23456789012", GREATEST)):
            with self.subTest(ref):
                self.assertIs(is_ref(ref), True)

    def test_one_item_is_wrong(self):
        for name in ("", "Anna", "7anna", "anna ", "anna\n", "a" * 13, None, 3, ["anna"], ("anna",)):
            with self.subTest(repr(name)):
                self.assertIs(is_ref((name, 3)), False)
        for number in (0, -3, GREATEST + 1, True, False, "3", 3.0, None, [3], (3,), "anna"):
            with self.subTest(repr(number)):
                self.assertIs(is_ref(("anna", number)), False)

    def test_another_length_order_or_kind(self):
        for thing in ((), ("anna",), (3,), ("anna", 3, 3), ("anna", 3, "anna"), (3, "anna"), ["anna", 3], "anna", 3,
                      {"anna": 3}, {"anna": 3, "bert": 4}, (("anna", 3),), "a1", ("anna", ("anna", 3))):
            with self.subTest(repr(thing)):
                self.assertIs(is_ref(thing), False)


class IsRoom(unittest.TestCase):
    def test_names_of_0_to_15_characters(self):
        for length in range(16):
            with self.subTest(length):
                self.assertIs(is_room(("a" * length, "tea")), 1 <= length <= 12)
                self.assertIs(is_room(("anna", "t" * length)), 1 <= length <= 12)

    def test_two_names(self):
        for room in (("anna", "tea"), ("a", "a"), ("anna", "anna"), ("z23456789012", "t23456789012")):
            with self.subTest(room):
                self.assertIs(is_room(room), True)

    def test_one_item_is_wrong(self):
        for name in ("", "Tea", "7tea", "tea ", "te-a", "tea\n", "\ttea", "t" * 13, None, 3, True, ["tea"], ("tea",)):
            with self.subTest(repr(name)):
                self.assertIs(is_room((name, "tea")), False)
                self.assertIs(is_room(("anna", name)), False)

    def test_another_length_or_kind(self):
        for thing in ((), ("anna",), ("anna", "tea", "two"), ["anna", "tea"], "ab", ("anna", 1), {"anna": 1, "tea": 2},
                      (("anna", "tea"),)):
            with self.subTest(repr(thing)):
                self.assertIs(is_room(thing), False)


if __name__ == "__main__":
    unittest.main()
