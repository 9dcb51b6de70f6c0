"""Tests of lettersonce.parcels: point 8.1."""

import unittest

from lettersonce.letters import Letter
from lettersonce.parcels import is_parcel

from samples import GREATEST, Touchy, TouchyText, TouchyTuple, letters, long_letters, odd_things

ROOM = ("anna", "tea")
COUNTS = (("anna", 2), ("bert", 1))
VALUES = tuple([letter.value() for letter in letters()])


class Parcels(unittest.TestCase):
    def assert_parcel(self, thing, expected=True):
        self.assertIs(is_parcel(thing), expected, repr(thing)[:200] if expected else None)

    def assert_none(self, *things):
        for thing in things:
            self.assert_parcel(thing, False)

    def test_asking(self):
        for counts in ((), (("anna", 1),), COUNTS, (("a", GREATEST), ("a1", 1), ("b", 7)),
                       tuple([(f"person{number}", number) for number in range(10, 99)])):
            self.assert_parcel(("have", ROOM, counts))

    def test_letters(self):
        for values in (VALUES, VALUES[:1], VALUES[:1] * 3, VALUES[::-1] + VALUES):
            self.assert_parcel(("letters", ROOM, values))
        for letter in long_letters():
            self.assert_parcel(("letters", ("z", "z"), (letter.value(),)))

    def test_names_that_do_not_ascend(self):
        for names in (("bert", "anna"), ("anna", "anna"), ("anna", "carl", "bert"), ("anna", "bert", "bert"), ("b", "a1", "a2")):
            self.assert_none(("have", ROOM, tuple([(name, 1) for name in names])))
        self.assert_none(("have", ROOM, (("anna", 1), ("anna", 2))))

    def test_pairs_that_are_none(self):
        pairs = [("anna", 0), ("anna", -1), ("anna", GREATEST + 1), ("anna", True), ("anna", "1"), ("anna", None), ("anna", 1.0),
                 ("Anna", 1), ("", 1), (1, 1), ("anna",), ("anna", 1, 1), ["anna", 1], "a1", (), None, 1, Touchy(),
                 ("anna", Touchy()), (Touchy(), 1), (TouchyText("anna"), 1), TouchyTuple(("anna", 1))]
        for pair in pairs:
            self.assert_none(("have", ROOM, (pair,)), ("have", ROOM, (("a", 1), pair)), ("have", ROOM, (pair, ("zoe", 1))))

    def test_lists_in_the_place_of_tuples(self):
        self.assert_none(["have", ROOM, COUNTS], ("have", list(ROOM), COUNTS), ("have", ROOM, list(COUNTS)), ("have", ROOM, []),
                         ("have", ROOM, (["anna", 2], ("bert", 1))), ["letters", ROOM, VALUES], ("letters", list(ROOM), VALUES),
                         ("letters", ROOM, list(VALUES)), ("letters", ROOM, (list(VALUES[0]),)), ("have", ROOM, {}),
                         ("have", ROOM, dict(COUNTS)), ("letters", ROOM, []), ("letters", ROOM, iter(VALUES)))

    def test_no_value(self):
        self.assert_none(("letters", ROOM, ()))

    def test_values_that_are_none(self):
        author, number, stamp, seen, body = VALUES[1]
        wrong = [(author, number, stamp, seen), VALUES[1] + (1,), (author, number, 1, seen, body), (author, 0, stamp, seen, body),
                 (author, number, stamp, seen[::-1], body), (author, number, stamp, seen, ("say", "")), None, (), "letter",
                 letters()[1], TouchyTuple(VALUES[1]), Touchy()]
        for value in wrong:
            self.assert_none(("letters", ROOM, (value,)), ("letters", ROOM, (VALUES[0], value)),
                             ("letters", ROOM, (value, VALUES[0])))
        self.assertIs(type(letters()[1]), Letter)

    def test_a_part_more_or_fewer(self):
        for whole in (("have", ROOM, COUNTS), ("have", ROOM, ()), ("letters", ROOM, VALUES)):
            self.assert_parcel(whole)
            self.assert_none(whole + ((),), whole + (1,), whole[:2], whole[:1], whole[1:], (), whole * 2, (whole,))

    def test_other_words(self):
        for word in ("Have", "letter", "has", "have ", "", "found", None, 1, True, ("have",), ["have"], b"have", TouchyText("have"),
                     TouchyText("letters"), Touchy()):
            self.assert_none((word, ROOM, COUNTS), (word, ROOM, VALUES), (word, ROOM, ()))
        self.assert_none(("letters", ROOM, COUNTS), ("have", ROOM, VALUES))

    def test_rooms_that_are_none(self):
        for room in (("anna",), ("anna", "tea", "tea"), ("Anna", "tea"), ("anna", "Tea"), ("anna", ""), ("anna", 1), "anna", None, (),
                     ("anna", None), Touchy(), (Touchy(), "tea"), ("anna", TouchyText("tea")), TouchyTuple(ROOM), "at"):
            self.assert_none(("have", room, COUNTS), ("have", room, ()), ("letters", room, VALUES))

    def test_any_objects(self):
        for thing in odd_things():
            self.assert_none(thing, (thing, ROOM, COUNTS), ("letters", thing, VALUES), ("have", ROOM, (thing,)),
                             ("letters", ROOM, (thing,)), (thing, thing, thing))
            if not (type(thing) is tuple and thing == ()):
                self.assert_none(("have", ROOM, thing))
            self.assert_none(("letters", ROOM, thing))
        self.assert_none(TouchyTuple(("have", ROOM, COUNTS)), ("have", ROOM, TouchyTuple(COUNTS)),
                         ("letters", ROOM, TouchyTuple(VALUES)))

    def test_nothing_is_changed(self):
        parts = ["letters", ROOM, list(VALUES)]
        is_parcel(parts)
        self.assertEqual(parts, ["letters", ROOM, list(VALUES)])

    def test_the_argument_by_name(self):
        self.assertIs(is_parcel(thing=("have", ROOM, ())), True)


if __name__ == "__main__":
    unittest.main()
