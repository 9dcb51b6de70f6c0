"""Tests of lettersonce.history: points 6.4 and 6.5."""

import random
import time
import unittest

from lettersonce.history import History
from lettersonce.ledger import Ledger
from lettersonce.letters import Letter
from lettersonce.settling import settled

from rooms import NAMES, HonestRoom, founding, honest_letters, ledger_of, letter, refs, state, values
from samples import GREATEST


class Histories(unittest.TestCase):
    def assert_renews(self, history, ledger, new):
        """Assert that an update puts just these refs behind, and that the ledger stays as it is."""
        before, old = state(ledger), refs(history.letters())
        answer = history.renew(ledger)
        self.assertIs(type(answer), list)
        self.assertEqual(refs(answer), new)
        self.assertTrue(all([type(row) is Letter for row in answer]))
        self.assert_has(history, old + new)
        self.assertEqual(values(history.letters()), values(settled(ledger)))
        self.assertEqual(state(ledger), before)

    def assert_has(self, history, expected):
        self.assertEqual((refs(history.letters()), refs(list(history)), len(history)), (expected, expected, len(expected)))
        self.assertIs(type(history.letters()), list)
        for name in NAMES:
            for number in list(range(1, 12)) + [GREATEST]:
                self.assertIs((name, number) in history, (name, number) in expected)

    def test_a_new_history(self):
        self.assert_has(History(), [])

    def test_it_is_updated_behind_each_taking(self):
        ledger, history = Ledger(founding("bert", "carl")), History()
        self.assert_renews(history, ledger, [("anna", 1)])
        self.assert_renews(history, ledger, [])
        steps = [
            (letter("anna", 2, 2), []),
            (letter("bert", 1, 3, anna=2), []),
            (letter("carl", 1, 4, anna=2, bert=1), [("anna", 2)]),
            (letter("anna", 3, 5, bert=1, carl=1), [("bert", 1)]),
            (letter("bert", 2, 6, anna=3, carl=1), [("carl", 1)]),
            (letter("carl", 2, 7, anna=3, bert=2, carl=2), [("anna", 3)]),
        ]
        for row, new in steps:
            ledger.take(row)
            self.assert_renews(history, ledger, new)

    def test_several_letters_at_once(self):
        ledger, history = ledger_of(founding("bert"), letter("bert", 1, 2, anna=1), letter("bert", 2, 3, anna=1)), History()
        self.assert_renews(history, ledger, [("anna", 1)])
        ledger.take(letter("anna", 2, 4, bert=2))
        ledger.take(letter("bert", 3, 5, anna=2))
        self.assert_renews(history, ledger, [("bert", 1), ("bert", 2), ("anna", 2)])
        ledger.take(letter("bert", 5, 7, anna=2))
        self.assert_renews(history, ledger, [])

    def test_the_order_is_that_of_the_keys_and_not_of_the_holding(self):
        rows = [letter("carl", 1, 2, anna=1), letter("bert", 1, 3, anna=1), letter("bert", 2, 4, anna=1),
                letter("anna", 2, 5, bert=2, carl=1), letter("carl", 2, 6, anna=2, bert=2), letter("bert", 3, 6, anna=2, carl=1)]
        ledger, history = ledger_of(founding("bert", "carl"), rows[1], rows[2], rows[0]), History()
        self.assert_renews(history, ledger, [("anna", 1)])
        for row in rows[3:]:
            ledger.take(row)
        self.assert_renews(history, ledger, [("carl", 1), ("bert", 1), ("bert", 2), ("anna", 2)])

    def test_void_letters_are_left_out(self):
        ledger, history = ledger_of(founding("bert", "carl"), *[letter("bert", number, number + 1) for number in (1, 2, 3)]), History()
        self.assert_renews(history, ledger, [("anna", 1)])
        ledger.take(letter("anna", 2, 5, ("cut", "bert"), bert=1))
        self.assert_renews(history, ledger, [])
        ledger.take(letter("carl", 1, 6, anna=2, bert=3))
        self.assert_renews(history, ledger, [("bert", 1), ("anna", 2)])
        ledger.take(letter("anna", 3, 7, bert=3, carl=1))
        self.assert_renews(history, ledger, [("carl", 1)])

    def test_what_is_returned_is_new(self):
        ledger, history = ledger_of(founding(), letter("anna", 2, 2)), History()
        history.renew(ledger).clear()
        history.letters().clear()
        history.letters().append("more")
        self.assert_has(history, [("anna", 1), ("anna", 2)])
        history.renew(ledger=ledger).append("more")
        self.assert_has(history, [("anna", 1), ("anna", 2)])

    def test_two_histories_have_no_effect_on_each_other(self):
        one, other = History(), History()
        ledger = ledger_of(founding(), letter("anna", 2, 2))
        self.assert_renews(one, ledger, [("anna", 1), ("anna", 2)])
        self.assert_has(other, [])
        ledger.take(letter("anna", 3, 3))
        self.assert_renews(other, ledger, [("anna", 1), ("anna", 2), ("anna", 3)])
        self.assert_has(one, [("anna", 1), ("anna", 2)])
        self.assert_renews(one, ledger, [("anna", 3)])


class HonestRooms(unittest.TestCase):
    def test_often_and_now_and_then(self):
        void = 0
        for seed in range(100):
            rows = honest_letters(seed, 60, people=NAMES[:2 + seed % 5], acts=[0.05, 0.2, 0.5][seed % 3])
            chance = random.Random(seed)
            rows = [rows[0]] + chance.sample(rows[1:], len(rows) - 1) if seed % 2 else rows
            ledger, often, seldom = Ledger(rows[0]), History(), History()
            new = []
            for row in rows:
                ledger.take(row)
                expected = values(settled(ledger))
                new += often.renew(ledger)
                self.assertEqual(values(often), expected, seed)
                self.assertEqual(values(new), expected, seed)
                if chance.random() < 0.1:
                    before = len(seldom)
                    self.assertEqual(values(seldom.renew(ledger)), expected[before:], seed)
                    self.assertEqual(values(seldom), expected, seed)
            seldom.renew(ledger)
            self.assertEqual(values(seldom), expected, seed)
            void += len([row for row in ledger if not ledger.roll.counts(row.ref)])
        self.assertGreater(void, 10)

    def test_of_two_histories_of_a_room_one_is_a_beginning_of_the_other(self):
        for seed in range(20):
            room = HonestRoom(seed, people=NAMES[:5], acts=0.2)
            histories = {name: History() for name in room.people}
            longest = []
            for _ in range(80):
                name = room.step()
                histories[name].renew(room.ledgers[name])
                now = values(histories[name])
                many = min(len(now), len(longest))
                self.assertEqual(now[:many], longest[:many])
                longest = max(now, longest, key=len)

    def test_a_room_with_many_letters_that_do_not_settle(self):
        ledger, history = Ledger(founding("bert")), History()
        started = time.perf_counter()
        for number in range(2, 4000):
            ledger.take(letter("anna", number, number))
            history.renew(ledger)
        self.assertEqual(len(history), 1)
        ledger.take(letter("bert", 1, 5000, anna=3999))
        self.assertEqual(len(history.renew(ledger)), 3998)
        self.assertLess(time.perf_counter() - started, 5)


if __name__ == "__main__":
    unittest.main()
