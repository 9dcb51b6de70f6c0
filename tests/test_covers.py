"""Tests of lettersonce.covers: points 6.1 and 6.2."""

import unittest

from lettersonce.covers import seen_by, seen_by_all
from lettersonce.errors import Unknown

from rooms import NAMES, HonestRoom, founding, ledger_of, letter, odd_rows, plain_seen_by, state
from samples import GREATEST


class Covers(unittest.TestCase):
    def assert_seen(self, ledger, name, author, many):
        """Assert that the ledger shows that a member has seen just so many letters of an author."""
        before = state(ledger)
        for number in (1, many - 1, many, many + 1, many + 2, GREATEST):
            if number >= 1:
                self.assertIs(seen_by(ledger, name, (author, number)), number <= many, (name, author, number))
        self.assertEqual(state(ledger), before)

    def assert_seen_by_all(self, ledger, author, many):
        before = state(ledger)
        for number in (1, many - 1, many, many + 1, many + 2, GREATEST):
            if number >= 1:
                self.assertIs(seen_by_all(ledger, (author, number)), number <= many, (author, number))
        self.assertEqual(state(ledger), before)

    def assert_unknown(self, ledger, name):
        for ref in (("anna", 1), (name, 1), ("zoe", 1)):
            with self.assertRaises(Unknown) as caught:
                seen_by(ledger, name, ref)
            self.assertIs(type(caught.exception), Unknown)


class ByOne(Covers):
    def test_members_who_came_by_the_founding_letter(self):
        ledger = ledger_of(founding("bert"), letter("anna", 2, 2), letter("anna", 3, 3))
        self.assert_seen(ledger, "anna", "anna", 3)
        self.assert_seen(ledger, "anna", "bert", 0)
        self.assert_seen(ledger, "bert", "anna", 1)
        self.assert_seen(ledger, "bert", "bert", 0)

    def test_members_with_letters_of_their_own(self):
        ledger = ledger_of(founding("bert"), letter("anna", 2, 2), letter("bert", 1, 3, anna=2), letter("anna", 3, 4))
        self.assert_seen(ledger, "bert", "anna", 2)
        self.assert_seen(ledger, "bert", "bert", 1)
        self.assert_seen(ledger, "anna", "bert", 0)
        ledger.take(letter("bert", 2, 5, anna=3))
        self.assert_seen(ledger, "bert", "anna", 3)
        self.assert_seen(ledger, "bert", "bert", 2)

    def test_members_who_came_by_an_add(self):
        rows = [founding("bert"), letter("bert", 1, 2, anna=1), letter("bert", 2, 3, anna=1),
                letter("anna", 2, 4, ("add", "carl"), bert=1)]
        ledger = ledger_of(*rows)
        self.assert_seen(ledger, "carl", "anna", 2)
        self.assert_seen(ledger, "carl", "bert", 1)
        self.assert_seen(ledger, "carl", "carl", 0)
        ledger.take(letter("anna", 3, 5, bert=2))
        self.assert_seen(ledger, "carl", "anna", 2)
        ledger.take(letter("carl", 1, 6, anna=2, bert=2))
        self.assert_seen(ledger, "carl", "anna", 2)
        self.assert_seen(ledger, "carl", "bert", 2)
        self.assert_seen(ledger, "carl", "carl", 1)

    def test_the_letter_by_which_a_member_came_is_asked_beside_the_last_one(self):
        # Letters that have seen less than what their author came by are not honest, but they may be asked.
        ledger = ledger_of(founding("bert"), letter("bert", 1, 2), letter("anna", 2, 4, ("add", "carl"), bert=1),
                           letter("carl", 1, 5), letter("bert", 2, 6))
        self.assert_seen(ledger, "carl", "anna", 2)
        self.assert_seen(ledger, "carl", "bert", 1)
        self.assert_seen(ledger, "bert", "anna", 1)

    def test_only_the_last_held_letter_is_asked(self):
        ledger = ledger_of(founding("bert"), letter("anna", 2, 2), letter("bert", 1, 3, anna=2), letter("bert", 2, 4))
        self.assert_seen(ledger, "bert", "anna", 1)

    def test_waiting_letters_are_not_asked(self):
        ledger = ledger_of(founding("bert"), letter("anna", 2, 2), letter("bert", 2, 3, anna=2))
        self.assertEqual(ledger.waiting(), [("bert", 2)])
        self.assert_seen(ledger, "bert", "anna", 1)
        ledger.take(letter("bert", 1, 3))
        self.assert_seen(ledger, "bert", "anna", 2)

    def test_refs_that_are_not_held(self):
        rows = [founding("bert", "carl"), letter("bert", 1, 2), letter("anna", 2, 4, ("cut", "bert"), bert=1),
                letter("carl", 1, 5, anna=1, bert=7)]
        ledger = ledger_of(*rows)
        self.assertEqual(ledger.held("bert"), 1)
        self.assert_seen(ledger, "carl", "bert", 7)
        self.assert_seen(ledger, "anna", "bert", 1)
        self.assert_seen(ledger, "anna", "zoe", 0)

    def test_others_than_members(self):
        ledger = ledger_of(founding("bert"), letter("bert", 1, 2), letter("anna", 2, 4, ("cut", "bert"), bert=1),
                           letter("carl", 1, 5))
        for name in ("bert", "carl", "zoe"):
            self.assert_unknown(ledger, name)

    def test_the_arguments_by_name(self):
        ledger = ledger_of(founding("bert"))
        self.assertIs(seen_by(ref=("anna", 1), name="bert", ledger=ledger), True)
        self.assertIs(seen_by_all(ref=("anna", 1), ledger=ledger), True)


class ByAll(Covers):
    def test_the_founder_alone(self):
        ledger = ledger_of(founding(), letter("anna", 2, 2))
        self.assert_seen_by_all(ledger, "anna", 2)
        self.assert_seen_by_all(ledger, "bert", 0)

    def test_each_member_is_asked(self):
        ledger = ledger_of(founding("bert", "carl"), letter("anna", 2, 2), letter("anna", 3, 3))
        self.assert_seen_by_all(ledger, "anna", 1)
        ledger.take(letter("bert", 1, 4, anna=3))
        self.assert_seen_by_all(ledger, "anna", 1)
        ledger.take(letter("carl", 1, 5, anna=2, bert=1))
        self.assert_seen_by_all(ledger, "anna", 2)
        self.assert_seen_by_all(ledger, "bert", 0)
        ledger.take(letter("anna", 4, 6, bert=1))
        self.assert_seen_by_all(ledger, "bert", 1)
        self.assert_seen_by_all(ledger, "carl", 0)

    def test_somebody_who_is_added_is_asked_too(self):
        ledger = ledger_of(founding("bert"), letter("bert", 1, 2), letter("anna", 2, 3, bert=1))
        self.assert_seen_by_all(ledger, "bert", 1)
        ledger.take(letter("bert", 2, 4))
        ledger.take(letter("anna", 3, 5, ("add", "carl"), bert=1))
        self.assert_seen_by_all(ledger, "bert", 1)
        ledger.take(letter("anna", 4, 6, bert=2))
        self.assert_seen_by_all(ledger, "bert", 1)
        ledger.take(letter("carl", 1, 7, anna=3, bert=2))
        self.assert_seen_by_all(ledger, "bert", 2)

    def test_people_who_were_cut_are_not_asked(self):
        ledger = ledger_of(founding("bert", "carl"), letter("anna", 2, 2), letter("carl", 1, 3, anna=2))
        self.assert_seen_by_all(ledger, "anna", 1)
        ledger.take(letter("anna", 3, 4, ("cut", "bert"), carl=1))
        self.assert_seen_by_all(ledger, "anna", 2)
        self.assert_seen_by_all(ledger, "carl", 1)

    def test_refs_that_are_not_held(self):
        ledger = ledger_of(founding("bert"), letter("anna", 2, 2, ("cut", "bert")), letter("anna", 3, 3, bert=5))
        self.assertEqual(ledger.held("bert"), 0)
        self.assert_seen_by_all(ledger, "bert", 5)


class AgainstThePlainOne(Covers):
    def assert_plain(self, ledger):
        members = ledger.roll.members()
        for author in NAMES[:6]:
            for number in range(1, ledger.held(author) + 3):
                ref = (author, number)
                expected = [plain_seen_by(ledger, name, ref) for name in members]
                self.assertEqual([seen_by(ledger, name, ref) for name in members], expected)
                self.assertIs(seen_by_all(ledger, ref), all(expected))

    def test_honest_rooms(self):
        for seed in range(10):
            room = HonestRoom(seed, people=NAMES[:5], acts=0.3)
            for step in range(60):
                name = room.step()
                if step % 5 == 0:
                    self.assert_plain(room.ledgers[name])

    def test_any_letters(self):
        for seed in range(60):
            rows = sum(odd_rows(seed, 25).values(), [])
            self.assert_plain(ledger_of(rows[0], *sorted(rows, key=lambda row: row.stamp)))


if __name__ == "__main__":
    unittest.main()
