"""Tests of lettersonce.letters: points 2.1 to 2.4."""

import itertools
import unittest

from lettersonce import errors
from lettersonce.letters import Letter, by_key, is_letter

from samples import BODIES, GREATEST, SEEN, Touchy, TouchyText, TouchyTuple, letters, long_letters, odd_things, value_of

GOOD = ("bert", 2, 5, SEEN, ("say", "hello"))
FOUNDING = ("anna", 1, 1, (("anna", 1),), ("found", "Tea", ("bert", "carl")))


def with_part(value, part, thing):
    return value[:part] + (thing,) + value[part + 1:]


class Letters(unittest.TestCase):
    def test_fields_ref_key_and_value(self):
        for value in [value_of(body) for body in BODIES.values()]:
            letter = Letter(*value)
            author, number, stamp, seen, body = value
            with self.subTest(body[0]):
                self.assertEqual((letter.author, letter.number, letter.stamp), (author, number, stamp))
                self.assertEqual((letter.seen, letter.body), (seen, body))
                self.assertEqual((letter.ref, letter.key), ((author, number), (stamp, author)))
                self.assertEqual(letter.value(), value)
                self.assertEqual([type(thing) for thing in (letter.ref, letter.key, letter.value())], [tuple] * 3)

    def test_arguments_by_name(self):
        letter = Letter(body=("seen",), seen=SEEN, stamp=5, number=2, author="bert")
        self.assertEqual(letter.value(), ("bert", 2, 5, SEEN, ("seen",)))

    def test_counts(self):
        letter = Letter(*GOOD)
        for name, count in (("anna", 4), ("bert", 2), ("carl", 0), ("", 0), ("aaaa", 0), ("zzzz", 0)):
            with self.subTest(name):
                self.assertEqual(letter.count(name), count)
                self.assertEqual(letter.count(name), count)

    def test_names_that_begin_alike(self):
        letter = Letter("anna", 7, 9, (("ann", 3), ("anna", 7), ("anna11", 2)), ("seen",))
        for name, count in (("a", 0), ("an", 0), ("ann", 3), ("anna", 7), ("anna1", 0), ("anna11", 2), ("anna111", 0),
                            ("nna", 0), ("nn", 0), ("annaa", 0)):
            with self.subTest(name):
                self.assertEqual(letter.count(name), count)
                self.assertIs(letter.has_seen((name, 1)), count >= 1)
                self.assertIs(letter.has_seen((name, 3)), count >= 3)

    def test_has_seen(self):
        letter = Letter(*GOOD)
        for name, count in (("anna", 4), ("bert", 2), ("carl", 0)):
            for number in (1, 2, 3, 4, 5, GREATEST):
                with self.subTest(f"{name} {number}"):
                    self.assertIs(letter.has_seen((name, number)), number <= count)

    def test_each_letter_has_seen_itself(self):
        for letter in letters() + long_letters():
            self.assertIs(letter.has_seen(letter.ref), True)
            self.assertIs(letter.has_seen((letter.author, letter.number + 1)), False)

    def test_great_counts(self):
        letter = Letter("anna", GREATEST, GREATEST, (("anna", GREATEST),), ("seen",))
        self.assertEqual(letter.count("anna"), GREATEST)
        self.assertIs(letter.has_seen(("anna", GREATEST)), True)

    def test_nothing_is_checked(self):
        for value in (("", 0, -5, (), ()), ("No Name", GREATEST + 1, 0, (("b", -1), ("a", 0)), ("shout", [])),
                      ("anna", 3, 1, (("bert", 2),), ("found",))):
            letter = Letter(*value)
            with self.subTest(value):
                self.assertEqual(letter.value(), value)
                self.assertEqual((letter.ref, letter.key), ((value[0], value[1]), (value[2], value[0])))
                for name, count in value[3]:
                    self.assertEqual(letter.count(name), count)
                self.assertEqual(letter.count("nobody"), 0)

    def test_the_counts_need_not_stand_in_order(self):
        letter = Letter("bert", 2, 5, (("carl", 3), ("anna", 4), ("bert", 2)), ("seen",))
        self.assertEqual([letter.count(name) for name in ("anna", "bert", "carl", "dora")], [4, 2, 3, 0])

    def test_two_letters_side_by_side(self):
        first, second = Letter(*GOOD), Letter(*FOUNDING)
        third = Letter("anna", 3, 6, (("anna", 3),), ("seen",))
        self.assertEqual([letter.value() for letter in (first, second)], [GOOD, FOUNDING])
        self.assertEqual([letter.count("anna") for letter in (first, second, third)], [4, 1, 3])
        self.assertEqual([letter.count("bert") for letter in (first, second, third)], [2, 0, 0])
        self.assertEqual([letter.ref for letter in (first, second, third)], [("bert", 2), ("anna", 1), ("anna", 3)])
        self.assertEqual([letter.key for letter in (first, second, third)], [(5, "bert"), (1, "anna"), (6, "anna")])


class IsLetter(unittest.TestCase):
    def assert_none(self, value):
        """Assert that something is no letter value, and that the next good one is read as before."""
        self.assertIs(is_letter(value), False)
        with self.assertRaises(errors.BadLetter) as caught:
            Letter.from_value(value)
        self.assertIs(type(caught.exception), errors.BadLetter)
        self.assertIsInstance(caught.exception, errors.RoomError)
        self.assertIsInstance(caught.exception, ValueError)
        self.assertEqual(Letter.from_value(GOOD).value(), GOOD)

    def assert_good(self, value):
        self.assertIs(is_letter(value), True)
        letter = Letter.from_value(value)
        self.assertIs(type(letter), Letter)
        self.assertEqual(letter.value(), value)

    def assert_all_none(self, value, part, things):
        for thing in things:
            with self.subTest(f"{thing!r} as part {part}"):
                self.assert_none(with_part(value, part, thing))

    def test_good_values(self):
        for letter in letters() + long_letters():
            with self.subTest(letter.value()):
                self.assert_good(letter.value())

    def test_from_value_makes_a_new_letter_each_time(self):
        first, second = Letter.from_value(GOOD), Letter.from_value(GOOD)
        self.assertIsNot(first, second)
        self.assertEqual((first.ref, first.key, first.count("anna")), (("bert", 2), (5, "bert"), 4))

    def test_a_letter_is_no_letter_value(self):
        for letter in letters():
            self.assert_none(letter)

    def test_another_length_or_kind(self):
        for value in (GOOD, FOUNDING):
            self.assert_none(list(value))
            self.assert_none((value,))
            for part in range(5):
                with self.subTest(part):
                    self.assert_none(value[:part] + value[part + 1:])
                    self.assert_none(value[:part] + (value[part],) + value[part:])
            self.assert_none(value + (None,))

    def test_the_order_of_the_parts(self):
        for order in itertools.permutations(range(5)):
            value = tuple([GOOD[part] for part in order])
            if value != GOOD:
                with self.subTest(order):
                    self.assert_none(value)

    def test_the_author(self):
        self.assert_all_none(GOOD, 0, ["", "Bert", "7bert", "bert ", "b" * 13, b"bert", None, True, 7, ("bert",), "anna",
                                       "carl", "ber", "bert1"])
        for name in ("Bert", "", "7", "b" * 13, "be rt", "bert\n"):
            with self.subTest(f"{name!r}, also in seen"):
                self.assert_none((name, 2, 5, ((name, 2),), ("seen",)))
        self.assert_good(("b" * 12, 2, 5, (("b" * 12, 2),), ("seen",)))

    def test_the_number(self):
        self.assert_all_none(GOOD, 1, [0, -2, 1, 3, True, False, "2", 2.0, None, GREATEST + 1, [2]])
        for number in (0, -1, True, 2.0, GREATEST + 1):
            with self.subTest(f"{number!r}, also in seen"):
                self.assert_none(("bert", number, GREATEST + 2, (("bert", number),), ("seen",)))
        self.assert_good(("bert", GREATEST, GREATEST, (("bert", GREATEST),), ("seen",)))

    def test_one_is_no_true(self):
        self.assert_none(("bert", True, 5, (("bert", 1),), ("seen",)))
        self.assert_none(("bert", 1, 5, (("bert", True),), ("seen",)))
        self.assert_none(("anna", 1, True, (("anna", 1),), ("found", "", ())))
        self.assert_none(("anna", True, 1, (("anna", 1),), ("found", "", ())))
        self.assert_none(("anna", 1, 1, (("anna", True),), ("found", "", ())))
        self.assert_none(("anna", 1, 1.0, (("anna", 1),), ("found", "", ())))

    def test_the_stamp(self):
        self.assert_all_none(GOOD, 2, [0, -5, 1, True, "5", 5.0, None, GREATEST + 1, [5], (5,)])
        for stamp in (2, 3, 5, GREATEST):
            with self.subTest(stamp):
                self.assert_good(with_part(GOOD, 2, stamp))

    def test_the_stamp_is_not_below_the_number(self):
        for number in range(1, 8):
            for stamp in range(1, 10):
                with self.subTest(f"number {number}, stamp {stamp}"):
                    value = ("bert", number, stamp, (("bert", number),), ("seen",))
                    self.assertIs(is_letter(value), stamp >= number and stamp >= 2)

    def test_seen(self):
        pair = ("bert", 2)
        self.assert_all_none(GOOD, 3, [
            (), [], None, True, 7, "bert", {"bert": 2}, list(SEEN), pair, (pair, ("anna", 4)), (pair, pair),
            (("anna", 4), ("anna", 4), pair), (("anna", 3), ("anna", 4), pair), (("bert", 1), pair), (pair, ("bert", 3)),
            (("anna", 4), ["bert", 2]), (["anna", 4], pair), (("anna", 4, 4), pair), (("anna",), pair), ((), pair),
            (("Anna", 4), pair), (("", 4), pair), (("a" * 13, 4), pair), ((7, 4), pair), ((None, 4), pair),
            (("anna", 0), pair), (("anna", -1), pair), (("anna", True), pair), (("anna", "4"), pair),
            (("anna", GREATEST + 1), pair), (("anna", None), pair), (None, pair), ("anna", pair), (4, pair),
            (pair, ("carl", 0)), (pair, ("carl", 3), ("bert1", 3)), (pair, 7), (pair, None), (pair, ("carl", False)),
        ])

    def test_seen_in_order(self):
        for seen in (((("bert", 2)),), (("anna", GREATEST), ("bert", 2)), (("bert", 2), ("bert1", 9)),
                     (("ber", 1), ("bert", 2), ("berta", 3)), (("a", 1), ("b", 1), ("bert", 2), ("c", 1), ("c0", 1))):
            with self.subTest(seen):
                self.assert_good(with_part(GOOD, 3, seen))
        many = tuple([(f"a{number:04d}", number) for number in range(1, 2000)]) + (("bert", 2),)
        self.assert_good(with_part(GOOD, 3, many))
        self.assert_none(with_part(GOOD, 3, many[1:1000] + many[:1] + many[1000:]))

    def test_seen_has_the_letter_itself_and_no_later_one(self):
        for seen in ((("anna", 4),), (("anna", 4), ("bert", 1)), (("anna", 4), ("bert", 3)), (("anna", 2),),
                     (("anna", 2), ("bert", 4)), (("bert", GREATEST),), (("ber", 2), ("bert2", 2))):
            with self.subTest(seen):
                self.assert_none(with_part(GOOD, 3, seen))

    def test_the_body(self):
        self.assert_all_none(GOOD, 4, [("say",), ("say", ""), ("shout", "hello"), ["say", "hello"], "say", None, True, (),
                                       ("say", "hello", "hello"), ("add", "Bert"), ("recall", ["anna", 1]), ("seen", "")])
        for kind, body in BODIES.items():
            with self.subTest(kind):
                self.assertIs(is_letter(with_part(GOOD, 4, body)), kind != "found")

    def test_a_founding_letter(self):
        self.assert_good(FOUNDING)
        self.assert_good(with_part(FOUNDING, 4, ("found", "", ())))
        self.assert_good(with_part(FOUNDING, 4, ("found", "t" * 60, tuple([f"m{number:02d}" for number in range(15)]))))
        self.assert_good(with_part(FOUNDING, 4, ("found", "Tea", ("ann", "anna1", "annab"))))

    def test_a_founding_letter_with_one_change(self):
        for part, thing in ((2, 2), (2, 5), (2, GREATEST), (1, 2), (3, (("anna", 2),)), (3, ()), (3, (("bert", 1),)),
                            (3, (("anna", 1), ("bert", 1))), (3, (("ann", 1), ("anna", 1))), (3, [("anna", 1)]),
                            (4, ("found", "Tea", ("anna",))), (4, ("found", "Tea", ("anna", "bert"))),
                            (4, ("found", "Tea", ("aaron", "anna"))), (4, ("found", "Tea", ("bert", "anna"))),
                            (4, ("found", "Tea")), (4, ("found", "Tea", ["bert"])), (0, "bert")):
            with self.subTest(f"{thing!r} as part {part}"):
                self.assert_none(with_part(FOUNDING, part, thing))

    def test_a_founding_letter_with_several_changes(self):
        body = FOUNDING[4]
        self.assert_none(("anna", 2, 2, (("anna", 2),), body))
        self.assert_none(("anna", 2, 1, (("anna", 2),), body))
        self.assert_none(("anna", 1, 2, (("anna", 1), ("bert", 1)), body))
        self.assert_none(("bert", 1, 1, (("bert", 1),), body))

    def test_only_a_founding_letter_has_the_stamp_1(self):
        for kind, body in BODIES.items():
            with self.subTest(kind):
                self.assertIs(is_letter(("anna", 1, 1, (("anna", 1),), body)), kind == "found")
                self.assertIs(is_letter(("anna", 1, 2, (("anna", 1),), body)), kind != "found")

    def test_any_object(self):
        for index, thing in enumerate(odd_things()):
            with self.subTest(f"odd thing {index}"):
                self.assert_none(thing)

    def test_any_object_as_a_part(self):
        things = [Touchy(), None, [], {}, set(), object(), Letter, (Touchy(),), ((Touchy(), Touchy()),),
                  (("anna", Touchy()), ("bert", 2)), ((Touchy(), 4), ("bert", 2)), ((["anna"], 4), ("bert", 2))]
        for value in (GOOD, FOUNDING):
            for part in range(5):
                for index, thing in enumerate(things):
                    with self.subTest(f"thing {index} as part {part}"):
                        self.assert_none(with_part(value, part, thing))

    def test_objects_of_classes_of_their_own_give_true_or_false(self):
        for value in (TouchyTuple(GOOD), with_part(GOOD, 0, TouchyText("bert")), with_part(GOOD, 3, TouchyTuple(SEEN)),
                      with_part(GOOD, 3, (("anna", 4), TouchyTuple(("bert", 2)))),
                      with_part(GOOD, 3, ((TouchyText("anna"), 4), ("bert", 2)))):
            self.assertIn(is_letter(value), (True, False))

    def test_what_is_passed_stays(self):
        for thing in (list(GOOD), with_part(GOOD, 3, list(SEEN)), with_part(GOOD, 4, ["say", "hello"])):
            before = repr(thing)
            self.assert_none(thing)
            self.assertEqual(repr(thing), before)


class ByKey(unittest.TestCase):
    def test_no_letter_and_one(self):
        self.assertEqual(by_key([]), [])
        letter = Letter(*GOOD)
        row = by_key([letter])
        self.assertEqual(len(row), 1)
        self.assertIs(row[0], letter)

    def test_stamps_go_before_authors(self):
        keys = [(stamp, author) for stamp in (1, 2, 9, 10, 100) for author in ("a", "anna", "anna1", "b", "bert")]
        made = {key: Letter(key[1], 1, key[0], ((key[1], 1),), ("seen",)) for key in keys}
        for order in (keys, keys[::-1], keys[7:] + keys[:7], keys[::2] + keys[1::2]):
            self.assertEqual([letter.key for letter in by_key([made[key] for key in order])], keys)

    def test_numbers_do_not_count(self):
        later = Letter("anna", 1, 7, (("anna", 1),), ("seen",))
        sooner = Letter("anna", 5, 6, (("anna", 5),), ("seen",))
        self.assertEqual([letter.number for letter in by_key([later, sooner])], [5, 1])

    def test_equal_keys_stay_in_order(self):
        rows = [Letter("anna", number, 7, (("anna", number),), ("seen",)) for number in range(1, 7)]
        first = Letter("bert", 1, 6, (("bert", 1),), ("seen",))
        for order in itertools.permutations(rows):
            self.assertEqual([letter.number for letter in by_key(list(order))], [letter.number for letter in order])
            self.assertEqual([letter.number for letter in by_key([*order, first])][1:],
                             [letter.number for letter in order])

    def test_the_same_letter_twice(self):
        letter, other = Letter(*GOOD), Letter("anna", 4, 5, (("anna", 4),), ("seen",))
        row = by_key([letter, other, letter])
        self.assertEqual(len(row), 3)
        self.assertEqual([item is letter for item in row], [False, True, True])

    def test_many_letters(self):
        rows = [Letter(f"n{index * 7919 % 11}", 1, index * 7907 % 1009 + 2, (), ("seen",)) for index in range(3000)]
        keys = [letter.key for letter in by_key(rows)]
        self.assertEqual(keys, sorted([letter.key for letter in rows]))

    def test_the_list_stays_and_the_other_one_is_new(self):
        rows = [Letter(*GOOD), Letter(*FOUNDING), Letter("anna", 4, 5, (("anna", 4),), ("seen",))]
        before = list(rows)
        first, second = by_key(rows), by_key(rows)
        self.assertEqual(rows, before)
        self.assertIs(type(first), list)
        self.assertIsNot(first, rows)
        self.assertIsNot(first, second)
        first.clear()
        self.assertEqual(len(second), 3)
        self.assertEqual(rows, before)
        ordered = by_key(second)
        self.assertIsNot(ordered, second)


if __name__ == "__main__":
    unittest.main()
