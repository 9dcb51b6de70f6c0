"""Tests of lettersonce.ledger: points 5.1 to 5.8."""

import random
import unittest

from lettersonce import errors
from lettersonce.ledger import Ledger
from lettersonce.letters import Letter, is_letter
from lettersonce.roll import Roll, roll_of

from rooms import (NAMES, HonestRoom, PlainLedger, counting, founding, honest_letters, ledger_of, letter, odd_rows, refs, roll_state,
                   state, values)
from samples import BODIES, GREATEST, odd_things


def orders(letters, many, seed=0):
    """Return the letters in so many orders: as they are, in the opposite order, and mixed."""
    chance = random.Random(seed)
    return [letters, letters[::-1]] + [chance.sample(letters, len(letters)) for _ in range(many - 2)]


class Ledgers(unittest.TestCase):
    def assert_refuses(self, ledger, error, call, *arguments):
        """Assert that a call raises just this error and changes nothing."""
        before = state(ledger)
        with self.assertRaises(error) as caught:
            call(*arguments)
        self.assertIs(type(caught.exception), error)
        self.assertEqual(state(ledger), before)

    def assert_takes(self, ledger, row, held, waiting=()):
        """Assert that taking a letter holds these, and leaves those waiting."""
        before = refs(ledger.letters())
        answer = ledger.take(row)
        self.assertIs(type(answer), list)
        self.assertEqual(answer, held)
        self.assertEqual(ledger.waiting(), list(waiting))
        self.assertEqual(refs(ledger.letters()), before + held)
        self.assert_agrees(ledger)

    def assert_agrees(self, ledger):
        """Assert that all that the ledger tells of its held letters fits them."""
        rows = ledger.letters()
        by_author = {}
        for row in rows:
            by_author.setdefault(row.author, []).append(row)
        self.assertEqual((len(ledger), list(ledger), refs(ledger)), (len(rows), rows, refs(rows)))
        self.assertEqual((ledger.authors(), type(ledger.authors())), (sorted(by_author), list))
        self.assertEqual(ledger.counts(), tuple([(name, len(by_author[name])) for name in sorted(by_author)]))
        self.assertEqual(ledger.top, max([row.stamp for row in rows]))
        self.assertEqual(roll_state(ledger.roll), roll_state(roll_of(ledger.founder, by_author)))
        for name in NAMES + ["zoe"]:
            held = by_author.get(name, [])
            self.assertEqual(ledger.held(name), len(held))
            self.assertEqual([row.number for row in held], list(range(1, len(held) + 1)))
            for number in range(1, len(held) + 3):
                if number <= len(held):
                    self.assertIs((name, number) in ledger, True)
                    self.assertEqual(ledger.letter((name, number)).value(), held[number - 1].value())
                else:
                    self.assertIs((name, number) in ledger, False)
                    self.assertRaises(errors.Unknown, ledger.letter, (name, number))


class Beginning(Ledgers):
    def test_a_founding_letter_alone(self):
        first = founding("bert", "carl", author="dora")
        ledger = Ledger(first)
        self.assertEqual(ledger.founder, "dora")
        self.assertEqual(values(ledger.letters()), [first.value()])
        self.assertEqual((ledger.top, ledger.waiting(), ledger.authors()), (1, [], ["dora"]))
        self.assertEqual(ledger.counts(), (("dora", 1),))
        self.assertEqual(ledger.roll.members(), ["dora", "bert", "carl"])
        self.assertIs(type(ledger.roll), Roll)
        self.assert_agrees(ledger)

    def test_other_letters_do_not_begin_a_ledger(self):
        for kind, body in BODIES.items():
            if kind != "found":
                for row in (letter("anna", 1, 2, body), letter("anna", 1, 1, body)):
                    with self.subTest(kind), self.assertRaises(errors.BadLetter) as caught:
                        Ledger(row)
                    self.assertIs(type(caught.exception), errors.BadLetter)

    def test_letter_of_refs_that_are_not_held(self):
        ledger = ledger_of(founding("bert"), letter("anna", 2, 2), letter("bert", 2, 9))
        for ref in (("anna", 3), ("anna", GREATEST), ("bert", 1), ("bert", 2), ("zoe", 1), ("ann", 1)):
            self.assert_refuses(ledger, errors.Unknown, ledger.letter, ref)
            self.assertIs(ref in ledger, False)
            self.assertEqual(ledger.held("zoe"), 0)

    def test_the_arguments_by_name(self):
        ledger = Ledger(founding=founding("bert"))
        self.assertEqual(ledger.take(letter=letter("anna", 2, 2)), [("anna", 2)])
        self.assertEqual((ledger.held(name="anna"), ledger.letter(ref=("anna", 2)).number), (2, 2))
        self.assertEqual(ledger.next_letter(body=("seen",), author="bert").ref, ("bert", 1))


class Taking(Ledgers):
    def setUp(self):
        """A talk of three, with an add and a hand; each letter has seen all before it but carl 2."""
        self.first = founding("bert", "carl")
        self.rows = [
            letter("bert", 1, 2, ("say", "one"), anna=1),
            letter("anna", 2, 3, ("add", "dora"), bert=1),
            letter("carl", 1, 4, ("say", "two"), anna=2, bert=1),
            letter("dora", 1, 5, ("say", "three"), anna=2, bert=1, carl=1),
            letter("anna", 3, 6, ("hand", "bert"), bert=1, carl=1, dora=1),
            letter("bert", 2, 7, ("add", "emil"), anna=3, carl=1, dora=1),
            letter("emil", 1, 8, ("seen",), anna=3, bert=2, carl=1, dora=1),
        ]

    def test_in_order(self):
        ledger = Ledger(self.first)
        for row in self.rows:
            self.assert_takes(ledger, row, [row.ref])
        self.assertEqual((ledger.roll.keeper, ledger.roll.members()), ("bert", ["anna", "bert", "carl", "dora", "emil"]))
        self.assertEqual(ledger.top, 8)

    def test_in_the_opposite_order(self):
        ledger = Ledger(self.first)
        taken = []
        for row in self.rows[:0:-1]:
            taken.append(row.ref)
            self.assert_takes(ledger, row, [], sorted(taken))
        self.assert_takes(ledger, self.rows[0], refs(self.rows))

    def test_mixed(self):
        ends = []
        for rows in orders(self.rows, 40):
            ledger = Ledger(self.first)
            held = []
            for row in rows:
                held += ledger.take(row)
                self.assert_agrees(ledger)
            self.assertEqual((sorted(held), ledger.waiting()), (sorted(refs(self.rows)), []))
            self.assertEqual(refs(ledger.letters()), [self.first.ref] + held)
            ends.append((sorted(values(ledger.letters())), roll_state(ledger.roll)))
        self.assertEqual(ends, [ends[0]] * 40)

    def test_letters_that_wait_are_held_in_the_order_of_their_keys(self):
        ledger = Ledger(founding("bert", "carl", "dora"))
        waiting = [letter("dora", 1, 3, anna=2), letter("carl", 1, 9, anna=2), letter("bert", 1, 3, anna=2)]
        for many, row in enumerate(waiting, start=1):
            self.assert_takes(ledger, row, [], sorted(refs(waiting[:many])))
        self.assert_takes(ledger, letter("anna", 2, 20), [("anna", 2), ("bert", 1), ("dora", 1), ("carl", 1)])

    def test_the_least_key_comes_first_among_those_that_can_be_held_by_then(self):
        ledger = Ledger(founding("bert", "carl", "dora"))
        # Carl has the least stamp, but has seen bert's second letter, which is the greatest.
        self.assert_takes(ledger, letter("carl", 1, 2, anna=2, bert=2), [], [("carl", 1)])
        self.assert_takes(ledger, letter("bert", 2, 9, anna=2), [], [("bert", 2), ("carl", 1)])
        self.assert_takes(ledger, letter("dora", 1, 8, anna=2), [], [("bert", 2), ("carl", 1), ("dora", 1)])
        self.assert_takes(ledger, letter("bert", 1, 7, anna=1), [("bert", 1)], [("bert", 2), ("carl", 1), ("dora", 1)])
        held = [("anna", 2), ("dora", 1), ("bert", 2), ("carl", 1)]
        self.assert_takes(ledger, letter("anna", 2, 3), held)

    def test_what_each_letter_waits_for(self):
        self.first = founding("bert", "carl")
        missing = [
            (letter("bert", 2, 5, anna=1), letter("bert", 1, 3)),
            (letter("bert", 1, 5, anna=2), letter("anna", 2, 3)),
            (letter("anna", 2, 5, carl=1), letter("carl", 1, 4)),
            (letter("dora", 1, 5), letter("anna", 2, 4, ("add", "dora"))),
        ]
        for row, needed in missing:
            with self.subTest(row.value()):
                ledger = Ledger(self.first)
                self.assert_takes(ledger, row, [], [row.ref])
                self.assert_takes(ledger, needed, [needed.ref, row.ref])

    def test_a_letter_that_has_seen_what_never_comes(self):
        ledger = Ledger(founding("bert"))
        for row in (letter("bert", 1, 5, zoe=1), letter("anna", 2, 5, anna=2, bert=GREATEST)):
            waiting = ledger.waiting()
            self.assert_takes(ledger, row, [], sorted(waiting + [row.ref]))
        self.assertEqual(len(ledger), 1)

    def test_an_author_who_is_not_known_yet(self):
        ledger = Ledger(founding("bert"))
        self.assert_takes(ledger, letter("carl", 2, 4, anna=1), [], [("carl", 2)])
        self.assert_takes(ledger, letter("carl", 1, 3, anna=1), [], [("carl", 1), ("carl", 2)])
        self.assert_takes(ledger, letter("bert", 1, 2, ("add", "carl"), anna=1), [("bert", 1)], [("carl", 1), ("carl", 2)])
        held = [("anna", 2), ("carl", 1), ("carl", 2)]
        self.assert_takes(ledger, letter("anna", 2, 2, ("add", "carl")), held)

    def test_letters_that_have_seen_strangers_wait_for_them(self):
        ledger = Ledger(founding("bert"))
        self.assert_takes(ledger, letter("bert", 1, 5, anna=2, carl=1), [], [("bert", 1)])
        self.assert_takes(ledger, letter("anna", 2, 2, ("add", "carl")), [("anna", 2)], [("bert", 1)])
        self.assert_takes(ledger, letter("carl", 1, 3, anna=2), [("carl", 1), ("bert", 1)])

    def test_a_hand_is_held_and_done_when_it_can_be(self):
        ledger = Ledger(self.first)
        for row in self.rows[:4]:
            ledger.take(row)
        self.assert_takes(ledger, self.rows[5], [], [("bert", 2)])
        self.assertEqual(ledger.roll.keeper, "anna")
        self.assert_takes(ledger, self.rows[6], [], [("bert", 2), ("emil", 1)])
        self.assert_takes(ledger, self.rows[4], refs(self.rows[4:]))
        self.assertEqual(ledger.roll.keeper, "bert")

    def test_the_new_keeper_s_letters_count_as_acts_from_the_first_that_has_seen_the_hand(self):
        ledger = Ledger(founding("bert"))
        rows = [letter("anna", 2, 2, ("hand", "bert")), letter("bert", 1, 3, ("add", "carl"), anna=1),
                letter("anna", 3, 4, ("add", "dora")), letter("bert", 2, 5, ("seen",), anna=3),
                letter("bert", 3, 6, ("add", "emil"), anna=1), letter("bert", 4, 7, ("hand", "anna"), anna=3),
                letter("anna", 4, 8, ("add", "fred")), letter("anna", 5, 9, ("add", "gina"), bert=4)]
        members = [[], [], [], [], ["emil"], ["emil"], ["emil"], ["emil", "gina"]]
        for row, added in zip(rows, members):
            self.assert_takes(ledger, row, [row.ref])
            self.assertEqual(ledger.roll.members(), ["anna", "bert"] + added)


class Cutting(Ledgers):
    def cut_ledger(self):
        """Return a ledger that holds bert's first letter and the cut of bert with the limit 2."""
        return ledger_of(founding("bert", "carl"), letter("bert", 1, 2, anna=1), letter("carl", 1, 3),
                         letter("bert", 2, 4, anna=1), letter("anna", 2, 5, ("cut", "bert"), bert=2))

    def test_a_void_letter_does_nothing(self):
        ledger = self.cut_ledger()
        for row in (letter("bert", 3, 6, anna=1), letter("bert", 4, 6, anna=1), letter("bert", GREATEST, GREATEST)):
            before = state(ledger)
            self.assert_takes(ledger, row, [])
            self.assertEqual(state(ledger), before)

    def test_a_cut_waits_for_the_letters_that_it_has_seen(self):
        ledger = ledger_of(founding("bert", "carl"), letter("carl", 1, 2, anna=2, bert=2))
        cut = letter("anna", 2, 9, ("cut", "bert"), bert=2)
        self.assert_takes(ledger, cut, [], [("anna", 2), ("carl", 1)])
        # Bert's third letter is not void before the cut is held, and its key is less.
        self.assert_takes(ledger, letter("bert", 3, 8), [], [("anna", 2), ("bert", 3), ("carl", 1)])
        self.assert_takes(ledger, letter("bert", 1, 3), [("bert", 1)], [("anna", 2), ("bert", 3), ("carl", 1)])
        self.assert_takes(ledger, letter("bert", 2, 4), [("bert", 2), ("bert", 3), ("anna", 2), ("carl", 1)])
        self.assertEqual((ledger.roll.cuts(), ledger.held("bert")), ({"bert": 2}, 3))

    def test_a_cut_is_held_before_letters_with_greater_keys(self):
        ledger = ledger_of(founding("bert", "carl"), letter("anna", 2, 9, ("cut", "bert"), bert=2), letter("bert", 3, 10))
        self.assert_takes(ledger, letter("bert", 1, 3), [("bert", 1)], [("anna", 2), ("bert", 3)])
        self.assert_takes(ledger, letter("bert", 2, 4), [("bert", 2), ("anna", 2)])
        self.assertEqual((ledger.roll.cuts(), ledger.held("bert")), ({"bert": 2}, 2))

    def test_letters_that_have_seen_more_than_the_limit(self):
        ledger = self.cut_ledger()
        self.assert_takes(ledger, letter("carl", 2, 9, anna=1, bert=7), [("carl", 2)])
        self.assert_takes(ledger, letter("carl", 3, 9, anna=2, bert=3), [("carl", 3)])

    def test_letters_that_have_seen_more_than_several_limits(self):
        ledger = ledger_of(founding("bert", "carl"), letter("bert", 1, 3), letter("anna", 2, 4, ("cut", "carl")))
        self.assert_takes(ledger, letter("bert", 2, 9, carl=4), [("bert", 2)])
        self.assert_takes(ledger, letter("anna", 3, 5, ("cut", "bert"), bert=1), [("anna", 3)])
        self.assert_takes(ledger, letter("anna", 4, 9, bert=3, carl=1), [("anna", 4)])
        self.assert_takes(ledger, letter("anna", 5, 9, bert=3, zoe=1), [], [("anna", 5)])

    def test_letters_that_have_seen_more_of_a_founder_who_was_cut(self):
        ledger = ledger_of(founding("bert", "carl"), letter("anna", 2, 2), letter("anna", 3, 3, ("hand", "carl")),
                           letter("carl", 1, 4, anna=3), letter("carl", 2, 5, ("cut", "anna"), anna=3))
        self.assertEqual((ledger.roll.cuts(), ledger.roll.keeper), ({"anna": 3}, "carl"))
        self.assert_takes(ledger, letter("bert", 1, 6, anna=9), [("bert", 1)])
        self.assert_takes(ledger, letter("anna", 4, 6), [])

    def test_waiting_letters_that_become_void_are_dropped(self):
        ledger = ledger_of(founding("bert", "carl"), letter("bert", 1, 2))
        rows = [letter("bert", 3, 6, carl=1), letter("bert", 4, 7), letter("carl", 2, 8), letter("bert", 2, 5, carl=1)]
        for row in rows:
            ledger.take(row)
        self.assertEqual(ledger.waiting(), [("bert", 2), ("bert", 3), ("bert", 4), ("carl", 2)])
        self.assert_takes(ledger, letter("anna", 2, 9, ("cut", "bert"), bert=1), [("anna", 2)], [("carl", 2)])
        # What was dropped is void, not there: an unlike letter with its ref contradicts nothing.
        self.assert_takes(ledger, letter("bert", 3, 9), [], [("carl", 2)])
        self.assert_takes(ledger, letter("carl", 1, 3), [("carl", 1), ("carl", 2)])

    def test_letters_and_a_cut_that_wait_for_the_same_letter(self):
        ledger = ledger_of(founding("bert", "carl"), letter("bert", 1, 2), letter("bert", 2, 5, carl=1), letter("carl", 2, 9))
        self.assertEqual(ledger.waiting(), [("bert", 2), ("carl", 2)])
        cut = letter("anna", 2, 9, ("cut", "bert"), bert=2)
        self.assert_takes(ledger, cut, [], [("anna", 2), ("bert", 2), ("carl", 2)])
        self.assert_takes(ledger, letter("carl", 1, 4), [("carl", 1), ("bert", 2), ("anna", 2), ("carl", 2)])

    def test_letters_that_wait_for_a_cut(self):
        # Carl has held a third letter of bert that is void, and that never comes here.
        ledger = ledger_of(founding("bert", "carl"), letter("bert", 1, 2), letter("bert", 2, 3))
        self.assert_takes(ledger, letter("carl", 1, 9, bert=3), [], [("carl", 1)])
        self.assert_takes(ledger, letter("anna", 2, 4, ("cut", "bert"), bert=2), [("anna", 2), ("carl", 1)])

    def test_a_held_letter_stays_held_when_its_author_is_cut(self):
        rows = [letter("bert", number, number + 1) for number in (1, 2, 3)]
        ledger = ledger_of(founding("bert"), *rows)
        cut = letter("anna", 2, 9, ("cut", "bert"), bert=1)
        self.assert_takes(ledger, cut, [("anna", 2)])
        self.assertEqual(ledger.held("bert"), 3)
        self.assertEqual([ledger.roll.counts(("bert", number)) for number in (1, 2, 3)], [True, False, False])
        self.assertEqual([("bert", number) in ledger for number in (1, 2, 3)], [True] * 3)
        self.assertEqual(ledger.counts(), (("anna", 2), ("bert", 3)))
        for row in rows:
            self.assert_takes(ledger, row, [])
            unlike = letter("bert", row.number, 30)
            self.assert_refuses(ledger, errors.Contradiction, ledger.take, unlike)
        self.assert_takes(ledger, letter("bert", 4, 10), [])


class Twice(Ledgers):
    def test_a_letter_twice(self):
        first = founding("bert")
        row, waiting = letter("bert", 1, 2, ("say", "one")), letter("bert", 3, 4, ("say", "three"))
        ledger = ledger_of(first, row, waiting)
        for again in (first, row, waiting):
            before = state(ledger)
            for same in (again, Letter.from_value(again.value())):
                self.assert_takes(ledger, same, [], [("bert", 3)])
            self.assertEqual(state(ledger), before)

    def test_another_founding_letter(self):
        ledger = ledger_of(founding("bert"), letter("carl", 1, 2), letter("bert", 1, 3))
        for row in (founding("bert", title="coffee"), founding(), founding("bert", "carl"), founding(author="bert"),
                    founding("anna", author="bert"), founding(author="carl"), founding("anna", author="zoe")):
            self.assert_refuses(ledger, errors.BadLetter, ledger.take, row)

    def test_unlike_letters(self):
        for held in (True, False):
            row = letter("bert", 2, 5, ("say", "one"), anna=1)
            ledger = ledger_of(founding("bert", "carl"), *[letter("bert", 1, 2)] * held, row)
            self.assertEqual((row.ref in ledger, row.ref in ledger.waiting()), (held, not held))
            for unlike in (letter("bert", 2, 5, ("say", "two"), anna=1), letter("bert", 2, 6, ("say", "one"), anna=1),
                           letter("bert", 2, 5, ("say", "one")), letter("bert", 2, 5, ("say", "one"), anna=9),
                           letter("bert", 2, 5, ("seen",), anna=1)):
                self.assert_refuses(ledger, errors.Contradiction, ledger.take, unlike)
            self.assert_takes(ledger, row, [], [] if held else [row.ref])

    def test_another_first_letter_of_the_founder(self):
        ledger = Ledger(founding("bert"))
        self.assert_refuses(ledger, errors.Contradiction, ledger.take, letter("anna", 1, 2))


class Writing(Ledgers):
    def setUp(self):
        """Anna's room: bert has written, carl has not, dora was cut with a void letter held, zoe is a stranger."""
        self.ledger = ledger_of(
            founding("bert", "carl", "dora"), letter("bert", 1, 2), letter("dora", 1, 3), letter("dora", 2, 7),
            letter("anna", 2, 5, ("cut", "dora"), bert=1, dora=1), letter("bert", 3, 99))

    def assert_new(self, ledger, author, body, value):
        before = state(ledger)
        row = ledger.next_letter(author, body)
        self.assertIs(type(row), Letter)
        self.assertEqual(row.value(), value)
        self.assertTrue(is_letter(row.value()))
        self.assertEqual(state(ledger), before)
        self.assertEqual(ledger.next_letter(author, body).value(), value)

    def test_number_stamp_and_seen(self):
        self.assert_new(self.ledger, "anna", ("seen",),
                        ("anna", 3, 8, (("anna", 3), ("bert", 1), ("dora", 2)), ("seen",)))
        self.assert_new(self.ledger, "bert", ("say", "hello"),
                        ("bert", 2, 8, (("anna", 2), ("bert", 2), ("dora", 2)), ("say", "hello")))
        self.assert_new(self.ledger, "carl", ("recall", ("dora", 2)),
                        ("carl", 1, 8, (("anna", 2), ("bert", 1), ("carl", 1), ("dora", 2)), ("recall", ("dora", 2))))

    def test_by_a_founder_alone(self):
        self.assert_new(Ledger(founding()), "anna", ("seen",), ("anna", 2, 2, (("anna", 2),), ("seen",)))

    def test_the_stamp_is_above_all_and_not_only_the_last_one(self):
        ledger = ledger_of(founding("bert"), letter("bert", 1, 50), letter("anna", 2, 9))
        self.assertEqual(ledger.next_letter("anna", ("seen",)).stamp, 51)

    def test_each_kind(self):
        bodies = [body for kind, body in BODIES.items() if kind in ("say", "title", "seen")]
        bodies += [("reply", ("bert", 1), "yes"), ("edit", ("anna", 1), "no"), ("recall", ("dora", 1)),
                   ("mark", ("anna", 2), "star"), ("add", "zoe"), ("cut", "carl"), ("hand", "bert"), ("cut", "bert")]
        for body in bodies:
            self.assertEqual(self.ledger.next_letter("anna", body).body, body)
            if body[0] not in ("add", "cut", "hand"):
                self.assertEqual(self.ledger.next_letter("carl", body).body, body)

    def test_a_taken_new_letter_is_held_at_once(self):
        row = self.ledger.next_letter("carl", ("say", "hello"))
        self.assert_takes(self.ledger, row, [("carl", 1)], [("bert", 3)])
        self.assertEqual(self.ledger.next_letter("carl", ("seen",)).ref, ("carl", 2))

    def test_bad_bodies(self):
        bodies = odd_things() + [("found", "tea", ()), ("found", "tea", ("bert",)), ("say", ""), ("say",), ["seen"], ("add", "A"),
                                 ("reply", ("bert", 0), "yes"), ("mark", ("bert", 1), ""), ("seen", 1), "seen", ("hand", None)]
        for body in bodies:
            for author in ("anna", "carl", "dora", "zoe"):
                self.assert_refuses(self.ledger, errors.BadBody, self.ledger.next_letter, author, body)

    def test_authors_who_are_no_members(self):
        for author in ("dora", "zoe", "emil"):
            for body in (("seen",), ("say", "hello"), ("add", "zoe"), ("add", "bert"), ("cut", "anna"), ("hand", "zoe"),
                         ("recall", ("zoe", 1)), ("mark", ("anna", 1), "star")):
                self.assert_refuses(self.ledger, errors.NotMember, self.ledger.next_letter, author, body)

    def test_acts_of_members_who_are_not_the_keeper(self):
        for author in ("bert", "carl"):
            for body in (("add", "zoe"), ("add", "bert"), ("add", "dora"), ("cut", "carl"), ("cut", "zoe"), ("cut", "anna"),
                         ("hand", "bert"), ("hand", "anna"), ("hand", "dora")):
                self.assert_refuses(self.ledger, errors.NotKeeper, self.ledger.next_letter, author, body)

    def test_adds_of_people_who_are_known(self):
        for name in ("anna", "bert", "carl", "dora"):
            self.assert_refuses(self.ledger, errors.Exists, self.ledger.next_letter, "anna", ("add", name))

    def test_cuts_and_hands_of_others_than_members(self):
        for kind in ("cut", "hand"):
            for name in ("anna", "dora", "zoe"):
                self.assert_refuses(self.ledger, errors.Unknown, self.ledger.next_letter, "anna", (kind, name))

    def test_targets_that_are_not_held(self):
        for ref in (("anna", 3), ("bert", 2), ("bert", 3), ("carl", 1), ("zoe", 1), ("anna", GREATEST)):
            for body in (("reply", ref, "yes"), ("edit", ref, "yes"), ("recall", ref), ("mark", ref, "star")):
                for author in ("anna", "carl"):
                    self.assert_refuses(self.ledger, errors.Unknown, self.ledger.next_letter, author, body)

    def test_the_keeper_that_was_handed_the_room(self):
        ledger = ledger_of(founding("bert", "carl"), letter("anna", 2, 2, ("hand", "bert")))
        self.assertEqual(ledger.next_letter("bert", ("cut", "anna")).value(),
                         ("bert", 1, 3, (("anna", 2), ("bert", 1)), ("cut", "anna")))
        self.assert_refuses(ledger, errors.NotKeeper, ledger.next_letter, "anna", ("add", "zoe"))
        self.assert_refuses(ledger, errors.Unknown, ledger.next_letter, "bert", ("hand", "bert"))


class Honest(Ledgers):
    def ends(self, first, rows, many, seed):
        """Return what is the same whatever the order, for so many orders; some letters are taken twice."""
        found = []
        for order in orders(rows, many, seed):
            ledger = Ledger(first)
            for row in order + order[::3]:
                ledger.take(row)
            found.append((roll_state(ledger.roll), counting(ledger), ledger.waiting()))
        return found

    def test_letters_in_many_orders(self):
        void = 0
        for seed in range(40):
            rows = honest_letters(seed, 50, people=NAMES[:3 + seed % 6], acts=[0.05, 0.2, 0.6][seed % 3])
            ends = self.ends(rows[0], rows[1:], 6, seed)
            self.assertEqual(ends, [ends[0]] * 6, seed)
            self.assertEqual(ends[0][2], [])
            # What counts by the roll is held, each of it.
            roll = roll_state(ledger_of(*rows).roll)
            self.assertEqual(ends[0][0], roll)
            limits = dict(roll["cuts"])
            expected = [row.value() for row in rows if row.number <= limits.get(row.author, GREATEST)]
            self.assertEqual(ends[0][1], sorted(expected))
            void += len(rows) - len(expected)
        self.assertGreater(void, 20)

    def test_letters_with_some_of_them_missing(self):
        waiting = 0
        for seed in range(60):
            rows = honest_letters(seed, 60, people=NAMES[:3 + seed % 6], acts=[0.05, 0.2, 0.6][seed % 3])
            chance = random.Random(seed)
            some = [row for row in rows[1:] if chance.random() < 0.9]
            ends = self.ends(rows[0], some, 6, seed)
            self.assertEqual(ends, [ends[0]] * 6, seed)
            waiting += len(ends[0][2])
        self.assertGreater(waiting, 100)

    def test_the_first_letters_of_a_room_come_late(self):
        rows = honest_letters(7, 60)
        ledger = Ledger(rows[0])
        for row in rows[10:] + rows[1:10]:
            ledger.take(row)
        self.assertEqual((counting(ledger), ledger.waiting()), (counting(ledger_of(*rows)), []))

    def test_new_letters_of_an_honest_room_are_honest_values(self):
        for row in honest_letters(3, 80, acts=0.4):
            self.assertTrue(is_letter(row.value()))


class Effects(Ledgers):
    def test_what_is_returned_is_new(self):
        ledger = ledger_of(founding("bert"), letter("anna", 2, 2), letter("bert", 2, 9))
        before = state(ledger)
        for answer in (ledger.letters(), ledger.authors(), ledger.waiting(), ledger.roll.members(), ledger.take(ledger.letters()[0])):
            self.assertIs(type(answer), list)
            answer.append("more")
            answer.clear()
        ledger.roll.cuts()["anna"] = 1
        held = ledger.take(letter("anna", 3, 3))
        held.clear()
        self.assertEqual(ledger.letters()[-1].ref, ("anna", 3))
        self.assertEqual(before["letters"], values(ledger.letters())[:-1])
        self.assertEqual((type(ledger.counts()), ledger.waiting()), (tuple, [("bert", 2)]))

    def test_a_roll_that_was_read_does_not_change(self):
        room = HonestRoom(11, acts=0.6)
        read = []
        for _ in range(200):
            ledger = room.ledgers[room.step()]
            read.append((ledger.roll, roll_state(ledger.roll)))
        for roll, told in read:
            self.assertEqual(roll_state(roll), told)
        self.assertGreater(len(set([str(told) for _, told in read])), 5)

    def test_two_ledgers_have_no_effect_on_each_other(self):
        first = founding("bert")
        one, other = Ledger(first), Ledger(first)
        before = state(other)
        one.take(letter("anna", 2, 2, ("cut", "bert")))
        one.take(letter("anna", 4, 4))
        self.assertEqual(state(other), before)
        other.take(letter("anna", 2, 2, ("hand", "bert")))
        self.assertEqual((one.roll.keeper, one.roll.cuts(), one.waiting()), ("anna", {"bert": 0}, [("anna", 4)]))
        self.assertEqual((other.roll.keeper, other.roll.cuts(), other.waiting()), ("bert", {}, []))

    def test_letters_that_are_taken_stay(self):
        rows = honest_letters(5, 40)
        told = values(rows)
        ledger_of(*rows)
        self.assertEqual(values(rows), told)

    def test_any_letters_against_the_plain_ledger(self):
        met = {"Contradiction": 0, "BadLetter": 0, "held": 0, "more": 0, "waiting": 0, "void": 0}
        for seed in range(250):
            chance = random.Random(seed)
            rows = sum(odd_rows(seed, 5 + seed % 30, NAMES[:3 + seed % 3], ahead=seed % 5 // 4).values(), [])
            pool = rows[1:] + [founding("carl", author=chance.choice(["anna", "bert"]))] + chance.choices(rows, k=4)
            pool += [Letter(row.author, row.number, row.stamp + 1, row.seen, ("say", "other")) for row in chance.choices(rows, k=4)]
            pool = chance.sample(pool, len(pool)) if seed % 3 else sorted(pool, key=lambda row: row.stamp)
            ledger, plain = Ledger(rows[0]), PlainLedger(rows[0])
            for row in pool:
                try:
                    answer = ledger.take(row)
                except errors.RoomError as error:
                    answer = type(error).__name__
                    met[answer] += 1
                else:
                    met["held"] += len(answer)
                    met["more"] += len(answer) > 1
                self.assertEqual(answer, plain.take(row), seed)
                self.assertEqual(state(ledger), state(plain), seed)
            met["waiting"] += len(ledger.waiting())
            met["void"] += len(ledger) - len(counting(ledger))
        self.assertGreater(min(met.values()), 50, met)


if __name__ == "__main__":
    unittest.main()
