"""Tests of lettersonce.settling: points 6.3 and 6.4."""

import random
import time
import unittest

from lettersonce.ledger import Ledger
from lettersonce.letters import Letter, by_key
from lettersonce.settling import settled, tail

from rooms import NAMES, HonestRoom, founding, ledger_of, letter, odd_rows, plain_settled, refs, state, values


class Settling(unittest.TestCase):
    def assert_split(self, ledger, settled_refs, tail_refs):
        """Assert that these are the settled letters and the tail, and that the ledger stays as it is."""
        before = state(ledger)
        self.assertEqual((refs(settled(ledger)), refs(tail(ledger))), (settled_refs, tail_refs))
        self.assertEqual([type(settled(ledger)), type(tail(ledger))], [list, list])
        for row in settled(ledger) + tail(ledger):
            self.assertIs(type(row), Letter)
            self.assertEqual(row.value(), ledger.letter(row.ref).value())
        self.assertEqual(state(ledger), before)

    def assert_whole(self, ledger):
        """Assert that both lists together are the held letters that count, by their keys."""
        rows = [row for row in ledger if ledger.roll.counts(row.ref)]
        self.assertEqual(refs(settled(ledger) + tail(ledger)), refs(by_key(rows)))


class OneLedger(Settling):
    def test_the_founding_letter_alone(self):
        self.assert_split(Ledger(founding()), [("anna", 1)], [])
        self.assert_split(Ledger(founding("bert", "carl")), [("anna", 1)], [])

    def test_a_founder_alone(self):
        ledger = ledger_of(founding(), letter("anna", 2, 2), letter("anna", 3, 3))
        self.assert_split(ledger, [("anna", 1), ("anna", 2), ("anna", 3)], [])

    def test_letters_settle_when_all_have_seen_them(self):
        ledger = ledger_of(founding("bert", "carl"), letter("anna", 2, 2))
        self.assert_split(ledger, [("anna", 1)], [("anna", 2)])
        ledger.take(letter("bert", 1, 3, anna=2))
        self.assert_split(ledger, [("anna", 1)], [("anna", 2), ("bert", 1)])
        ledger.take(letter("carl", 1, 4, anna=2, bert=1))
        self.assert_split(ledger, [("anna", 1), ("anna", 2)], [("bert", 1), ("carl", 1)])
        ledger.take(letter("anna", 3, 5, bert=1, carl=1))
        self.assert_split(ledger, [("anna", 1), ("anna", 2), ("bert", 1)], [("carl", 1), ("anna", 3)])

    def test_a_letter_behind_one_that_is_not_seen_by_all_is_not_settled(self):
        # Anna's second letter is seen by all; bert's first one has a lesser key, and anna has not seen it.
        ledger = ledger_of(founding("bert"), letter("bert", 1, 2), letter("anna", 2, 3), letter("bert", 2, 4, anna=2))
        self.assert_split(ledger, [("anna", 1)], [("bert", 1), ("anna", 2), ("bert", 2)])
        ledger.take(letter("anna", 3, 5, bert=1))
        self.assert_split(ledger, [("anna", 1), ("bert", 1), ("anna", 2)], [("bert", 2), ("anna", 3)])

    def test_the_order_is_that_of_the_keys(self):
        ledger = ledger_of(founding("bert", "carl"), letter("carl", 1, 2), letter("anna", 2, 9), letter("bert", 1, 9),
                           letter("bert", 2, 10), letter("carl", 2, 5))
        self.assert_split(ledger, [("anna", 1)], [("carl", 1), ("carl", 2), ("anna", 2), ("bert", 1), ("bert", 2)])

    def test_letters_with_the_same_key_stay_in_the_order_in_which_they_were_held(self):
        rows = [letter("anna", 2, 9, bert=1), letter("bert", 1, 9), letter("bert", 2, 9), letter("anna", 3, 9, bert=2),
                letter("anna", 4, 4)]
        self.assert_split(ledger_of(founding("bert"), *rows), [("anna", 1)],
                          [("anna", 4), ("anna", 2), ("anna", 3), ("bert", 1), ("bert", 2)])
        ledger = ledger_of(founding(), letter("anna", 2, 7), letter("anna", 3, 5), letter("anna", 4, 7), letter("anna", 5, 5))
        self.assert_split(ledger, [("anna", 1), ("anna", 3), ("anna", 5), ("anna", 2), ("anna", 4)], [])

    def test_held_letters_that_are_void_are_in_neither(self):
        rows = [founding("bert", "carl"), letter("bert", 1, 2), letter("bert", 2, 3), letter("bert", 3, 4)]
        ledger = ledger_of(*rows)
        self.assert_split(ledger, [("anna", 1)], [("bert", 1), ("bert", 2), ("bert", 3)])
        ledger.take(letter("anna", 2, 5, ("cut", "bert"), bert=2))
        self.assert_split(ledger, [("anna", 1)], [("bert", 1), ("bert", 2), ("anna", 2)])
        ledger.take(letter("carl", 1, 6, anna=2, bert=3))
        self.assert_split(ledger, [("anna", 1), ("bert", 1), ("bert", 2), ("anna", 2)], [("carl", 1)])

    def test_a_void_letter_does_not_hold_up_those_behind_it(self):
        ledger = ledger_of(founding("bert"), letter("bert", 1, 2), letter("anna", 2, 5, ("cut", "bert")))
        self.assert_split(ledger, [("anna", 1), ("anna", 2)], [])

    def test_waiting_letters_are_in_neither(self):
        ledger = ledger_of(founding("bert"), letter("bert", 2, 3), letter("anna", 3, 4))
        self.assert_split(ledger, [("anna", 1)], [])

    def test_somebody_who_is_added_has_seen_what_the_add_has_seen(self):
        ledger = ledger_of(founding("bert"), letter("bert", 1, 2), letter("anna", 2, 3, ("add", "carl"), bert=1))
        self.assert_split(ledger, [("anna", 1), ("bert", 1)], [("anna", 2)])
        ledger.take(letter("bert", 2, 4, anna=2))
        self.assert_split(ledger, [("anna", 1), ("bert", 1), ("anna", 2)], [("bert", 2)])

    def test_what_is_returned_is_new(self):
        ledger = ledger_of(founding("bert"), letter("anna", 2, 2))
        settled(ledger).clear()
        tail(ledger).clear()
        self.assert_split(ledger, [("anna", 1)], [("anna", 2)])

    def test_the_argument_by_name(self):
        ledger = ledger_of(founding("bert"), letter("anna", 2, 2))
        self.assertEqual((refs(settled(ledger=ledger)), refs(tail(ledger=ledger))), ([("anna", 1)], [("anna", 2)]))

    def test_any_letters_against_the_plain_ones(self):
        void = 0
        for seed in range(150):
            rows = sum(odd_rows(seed, 5 + seed % 30, NAMES[:3 + seed % 3]).values(), [])
            chance = random.Random(seed)
            ledger = Ledger(rows[0])
            for row in chance.sample(rows, len(rows)) if seed % 2 else sorted(rows, key=lambda row: row.stamp):
                ledger.take(row)
                expected = plain_settled(ledger)
                self.assertEqual((values(settled(ledger)), values(tail(ledger))), (values(expected[0]), values(expected[1])))
            self.assert_whole(ledger)
            void += len(ledger) - len(sum(expected, []))
        self.assertGreater(void, 20)


class HonestRooms(Settling):
    def test_settled_letters_stay_and_are_the_beginning_of_those_of_any_other_ledger(self):
        met = {"settled": 0, "void": 0, "cuts": 0, "hands": 0}
        for seed in range(40):
            room = HonestRoom(seed, people=NAMES[:2 + seed % 5], acts=[0.05, 0.2, 0.5][seed % 3])
            longest = []
            last = {name: [] for name in room.people}
            for _ in range(80):
                name = room.step()
                ledger = room.ledgers[name]
                now = refs(settled(ledger))
                self.assertEqual(now[:len(last[name])], last[name], seed)
                last[name] = now
                many = min(len(now), len(longest))
                self.assertEqual(now[:many], longest[:many], seed)
                longest = max(now, longest, key=len)
            self.assert_whole(ledger)
            met["settled"] += len(longest)
            met["void"] += sum([len(ledger) - len(settled(ledger) + tail(ledger)) for ledger in room.ledgers.values()])
            met["cuts"] += max([len(ledger.roll.cuts()) for ledger in room.ledgers.values()])
            met["hands"] += len(set([ledger.roll.keeper for ledger in room.ledgers.values()]) - {"anna"})
        self.assertGreater(met["settled"], 400)
        self.assertGreater(min(met.values()), 5, met)

    def test_each_letter_stands_behind_all_that_its_author_had_seen(self):
        for seed in range(20):
            room = HonestRoom(seed, people=NAMES[:4], acts=0.2)
            for _ in range(80):
                room.step()
            for ledger in room.ledgers.values():
                found = settled(ledger) + tail(ledger)
                for place, row in enumerate(found):
                    for earlier in found[:place]:
                        self.assertFalse(earlier.has_seen(row.ref))

    def test_when_all_have_written_what_they_hold_all_settles(self):
        for seed in range(20):
            room = HonestRoom(seed, people=NAMES[:5], acts=0.3)
            for _ in range(60):
                room.step()
            room.meet()
            before = [row for row in room.letters if room.ledgers["anna"].roll.counts(row.ref)]
            for name in room.ledgers["anna"].roll.members():
                room.write(name, ("seen",))
            room.meet()
            for ledger in room.ledgers.values():
                self.assertEqual(values(settled(ledger)), values(settled(room.ledgers["anna"])))
                self.assertLessEqual(set(refs(before)), set(refs(settled(ledger))))

    def test_the_settled_letters_are_the_same_whatever_the_order(self):
        for seed in range(20):
            room = HonestRoom(seed, people=NAMES[:5], acts=0.3)
            for _ in range(60):
                room.step()
            ends = []
            for order in range(4):
                rows = room.chance.sample(room.letters[1:], len(room.letters) - 1)
                ledger = ledger_of(room.letters[0], *rows)
                ends.append((values(settled(ledger)), values(tail(ledger))))
            self.assertEqual(ends, [ends[0]] * 4)

    def test_rooms_of_eight_with_hundreds_of_letters(self):
        room = HonestRoom(1, members=NAMES[1:], acts=0.05)
        while len(room.letters) < 600:
            room.step()
        chance = random.Random(1)
        started = time.perf_counter()
        for rows in (room.letters[1:], room.letters[:0:-1], chance.sample(room.letters[1:], len(room.letters) - 1)):
            ledger = Ledger(room.letters[0])
            for row in rows:
                ledger.take(row)
                self.assertTrue(ledger.roll.is_member(ledger.roll.keeper))
                self.assertLessEqual(len(settled(ledger)) + len(tail(ledger)), len(ledger))
            self.assertEqual(ledger.waiting(), [])
        self.assertLess(time.perf_counter() - started, 8)


if __name__ == "__main__":
    unittest.main()
