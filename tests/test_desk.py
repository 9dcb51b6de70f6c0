"""Tests of lettersonce.desk: points 7.2 to 7.9."""

import random
import time
import unittest

from lettersonce import errors
from lettersonce.desk import Desk
from lettersonce.diary import entry, read_diary
from lettersonce.ledger import Ledger
from lettersonce.letters import Letter
from lettersonce.parcels import is_parcel
from lettersonce.settling import settled, tail

from desks import HonestDesks, ask, desk_state, exchange
from rooms import NAMES, counting, founding, letter, refs, roll_state, values
from samples import BODIES, Touchy, TouchyText, TouchyTuple, odd_things

ROOM = ("anna", "tea")


def desk_with(name, *letters, room=ROOM):
    """Return the desk of a person that has taken these letters of a room; nothing of them is saved."""
    desk = Desk(name)
    for row in letters:
        desk.take(room, row)
    return desk


def entries(desk):
    """Return the list of the entries in the diary of a desk, each a text."""
    return [entry(room, row) for room, row in read_diary(desk.diary)[0]]


class Desks(unittest.TestCase):
    def assert_refuses(self, desk, error, call, *arguments):
        """Assert that a call raises just this error and changes nothing."""
        before = desk_state(desk)
        with self.assertRaises(error) as caught:
            call(*arguments)
        self.assertIs(type(caught.exception), error)
        self.assertEqual(desk_state(desk), before)

    def assert_takes(self, desk, room, row, held):
        """Assert that taking a letter holds these, puts down their entries, and saves nothing."""
        diary, saved = desk.diary, desk.saved
        answer = desk.take(room, row)
        self.assertEqual((type(answer), answer), (list, held))
        more = "".join([entry(room, desk.ledger(room).letter(ref)) for ref in held])
        self.assertEqual((desk.diary, desk.saved), (diary + more, saved))
        self.assert_agrees(desk)

    def assert_agrees(self, desk):
        """Assert that the diary, the ledgers, the histories and the tails of a desk fit each other."""
        pairs, length = read_diary(desk.diary)
        self.assertEqual(length, len(desk.diary))
        self.assertEqual(desk.diary, "".join([entry(room, row) for room, row in pairs]))
        self.assertEqual((type(desk.rooms()), desk.rooms()), (list, sorted(set([room for room, _ in pairs]))))
        for room in desk.rooms():
            ledger = desk.ledger(room)
            self.assertIs(type(ledger), Ledger)
            self.assertEqual(values([row for other, row in pairs if other == room]), values(ledger.letters()))
            self.assertEqual(desk.have(room), ledger.counts())
            self.assertEqual((values(desk.history(room)), values(desk.tail(room))), (values(settled(ledger)), values(tail(ledger))))
            self.assertEqual((type(desk.history(room)), type(desk.tail(room))), (list, list))

    def assert_has_no(self, desk, room):
        for call in (desk.ledger, desk.history, desk.tail):
            self.assert_refuses(desk, errors.Unknown, call, room)
        self.assertEqual((desk.have(room), desk.lacking(room, ()), desk.lacking(room, (("anna", 1),))), ((), [], []))


class Making(Desks):
    def assert_made(self, desk, text, whole):
        """Assert that a desk that is made from a text has just the entries that stand whole in it."""
        made = Desk(desk.name, diary=text)
        self.assertEqual((made.name, made.diary, made.saved), (desk.name, whole, len(whole)))
        pairs = read_diary(whole)[0]
        self.assertEqual(made.rooms(), sorted(set([room for room, _ in pairs])))
        for room in made.rooms():
            held = [row for other, row in pairs if other == room]
            self.assertEqual(values(made.ledger(room).letters()), values(held))
            self.assertEqual(made.ledger(room).waiting(), [])
        self.assert_agrees(made)

    def test_a_new_desk(self):
        desk = Desk("anna")
        self.assertEqual((desk.name, desk.diary, desk.saved, desk.rooms()), ("anna", "", 0, []))
        self.assert_has_no(desk, ROOM)
        self.assertEqual(desk_state(Desk("anna", diary="")), desk_state(desk))
        self.assertEqual(Desk(name="bert").name, "bert")

    def test_the_diary_is_passed_by_its_name(self):
        self.assertRaises(TypeError, Desk, "anna", "")

    def test_from_each_beginning_of_a_diary(self):
        anna = Desk("anna")
        room = anna.found("tea", "Tea", ("bert",))
        other = anna.found("coffee", "Coffee", ("bert", "carl"))
        bert = Desk("bert")
        for where in (room, other):
            ask(bert, anna, where)
        bert.write(other, ("say", "one\ntwo"))
        bert.write(room, ("reply", ("anna", 1), "three"))
        for where in (room, other):
            ask(anna, bert, where)
        anna.write(room, ("cut", "bert"))
        anna.write(other, ("mark", ("bert", 1), "star"))
        for desk in (anna, bert):
            parts = entries(desk)
            for cut in range(len(desk.diary) + 1):
                many = 0
                while len("".join(parts[:many + 1])) <= cut and many < len(parts):
                    many += 1
                self.assert_made(desk, desk.diary[:cut], "".join(parts[:many]))
        self.assertEqual([len(entries(anna)), len(entries(bert))], [6, 4])

    def test_from_beginnings_of_the_diaries_of_honest_desks(self):
        for seed in range(12):
            town = HonestDesks(seed, people=NAMES[:2 + seed % 4], many_rooms=1 + seed % 2, acts=0.2)
            for _ in range(150):
                town.step()
            for desk in town.desks.values():
                parts = entries(desk)
                self.assertEqual("".join(parts), desk.diary)
                for many in range(0, len(parts) + 1, 5):
                    whole = "".join(parts[:many])
                    self.assert_made(desk, whole, whole)
                    self.assert_made(desk, (whole + "".join(parts[many:many + 1]))[:-1] if many < len(parts) else whole, whole)

    def test_all_letters_of_its_own_are_in_what_is_saved(self):
        for seed in range(10):
            town = HonestDesks(seed, people=NAMES[:4], acts=0.2, stops=0.0)
            for _ in range(150):
                desk = town.step()
                made = Desk(desk.name, diary=desk.diary[:desk.saved])
                self.assertEqual(made.diary, desk.diary[:desk.saved])
                for room in desk.rooms():
                    if (desk.name, 1) in desk.ledger(room):
                        self.assertEqual(made.ledger(room).held(desk.name), desk.ledger(room).held(desk.name))

    def test_letters_that_waited_are_not_in_the_diary(self):
        desk = desk_with("bert", founding("bert"), letter("anna", 3, 3))
        self.assertEqual(desk.ledger(ROOM).waiting(), [("anna", 3)])
        made = Desk("bert", diary=desk.diary)
        self.assertEqual((made.ledger(ROOM).waiting(), made.have(ROOM)), ([], (("anna", 1),)))
        self.assertEqual(made.take(ROOM, letter("anna", 2, 2)), [("anna", 2)])


class Founding(Desks):
    def test_found(self):
        anna = Desk("anna")
        room = anna.found("tea", "Tea at four", ("bert", "carl"))
        self.assertEqual((room, type(room)), (("anna", "tea"), tuple))
        first = Letter("anna", 1, 1, (("anna", 1),), ("found", "Tea at four", ("bert", "carl")))
        self.assertEqual(values(anna.ledger(room).letters()), [first.value()])
        self.assertEqual((anna.diary, anna.saved), (entry(room, first), len(entry(room, first))))
        self.assertEqual((refs(anna.history(room)), anna.tail(room), anna.have(room)), ([("anna", 1)], [], (("anna", 1),)))
        self.assert_agrees(anna)

    def test_several_rooms(self):
        anna = Desk("anna")
        found = [anna.found(word, "", ()) for word in ("tea", "b2", "coffee", "b")]
        self.assertEqual(found, [("anna", "tea"), ("anna", "b2"), ("anna", "coffee"), ("anna", "b")])
        self.assertEqual(anna.rooms(), [("anna", "b"), ("anna", "b2"), ("anna", "coffee"), ("anna", "tea")])
        self.assertEqual([room for room, _ in read_diary(anna.diary)[0]], found)
        self.assert_agrees(anna)

    def test_all_of_the_diary_is_saved_by_it(self):
        bert = desk_with("bert", founding("bert"))
        self.assertEqual(bert.saved, 0)
        bert.found("tea", "", ("anna",))
        self.assertEqual((bert.saved, len(entries(bert))), (len(bert.diary), 2))

    def test_words_titles_and_members_that_make_no_body(self):
        anna = Desk("anna")
        anna.found("tea", "Tea", ())
        for word in ("", "Tea", "7tea", "a" * 13, "te a", b"tea", None, 1, ("tea",), TouchyText("tea")):
            self.assert_refuses(anna, errors.BadBody, anna.found, word, "Tea", ())
        for title in ("t" * 61, "a\nb", None, 1, b"Tea", ("Tea",), TouchyText("Tea")):
            self.assert_refuses(anna, errors.BadBody, anna.found, "milk", title, ())
            self.assert_refuses(anna, errors.BadBody, anna.found, "tea", title, ())
        people = tuple([f"p{number}" for number in range(10, 26)])
        for members in (("carl", "bert"), ("bert", "bert"), ["bert"], {"bert"}, "bert", None, 1, ("Bert",), (1,), people, (None,),
                        TouchyTuple(("bert",)), (TouchyText("bert"),)):
            self.assert_refuses(anna, errors.BadBody, anna.found, "milk", "Milk", members)
            self.assert_refuses(anna, errors.BadBody, anna.found, "tea", "Tea", members)
        self.assertEqual(anna.found("milk", "t" * 60, people[:15]), ("anna", "milk"))

    def test_any_objects(self):
        anna = Desk("anna")
        for thing in odd_things():
            self.assert_refuses(anna, errors.BadBody, anna.found, thing, "Tea", ())
            self.assert_refuses(anna, errors.BadBody, anna.found, "tea", thing, ())
            self.assert_refuses(anna, errors.BadBody, anna.found, thing, thing, thing)
            if not (type(thing) is tuple and len(thing) == 0):
                self.assert_refuses(anna, errors.BadBody, anna.found, "tea", "Tea", thing)
        self.assert_refuses(anna, errors.BadBody, anna.found, Touchy(), Touchy(), Touchy())

    def test_its_own_name_among_the_members(self):
        bert = Desk("bert")
        for members in (("bert",), ("anna", "bert"), ("bert", "carl"), ("anna", "bert", "carl")):
            self.assert_refuses(bert, errors.BadBody, bert.found, "tea", "Tea", members)
        self.assertEqual(bert.found("tea", "Tea", ("ber", "bert1")), ("bert", "tea"))

    def test_a_room_that_it_has(self):
        anna = Desk("anna")
        anna.found("tea", "Tea", ())
        for title, members in (("Tea", ()), ("Coffee", ("bert",))):
            self.assert_refuses(anna, errors.Exists, anna.found, "tea", title, members)
        self.assert_refuses(anna, errors.BadBody, anna.found, "tea", "Tea", ("anna",))

    def test_a_word_that_others_have(self):
        bert = desk_with("bert", founding("bert"))
        self.assertEqual(bert.found("tea", "", ()), ("bert", "tea"))
        self.assertEqual(bert.rooms(), [("anna", "tea"), ("bert", "tea")])

    def test_the_arguments_by_name(self):
        anna = Desk("anna")
        room = anna.found(members=(), title="Tea", word="tea")
        self.assertEqual(anna.write(body=("seen",), room=room), ("anna", 2))
        self.assertEqual(anna.take(letter=letter("bert", 1, 2), room=room), [])
        self.assertEqual(refs(anna.lacking(counts=(("anna", 1),), room=room)), [("anna", 2)])
        self.assertEqual(len(anna.handle(parcel=("have", room, ()), sender="bert")), 1)
        self.assertEqual((len(anna.history(room=room)), len(anna.tail(room=room)), len(anna.ledger(room=room))), (2, 0, 2))


class Writing(Desks):
    def test_write(self):
        anna = Desk("anna")
        room = anna.found("tea", "Tea", ("bert",))
        ref = anna.write(room, ("say", "who comes?"))
        self.assertEqual((ref, type(ref)), (("anna", 2), tuple))
        self.assertEqual(anna.ledger(room).letter(ref).value(), ("anna", 2, 2, (("anna", 2),), ("say", "who comes?")))
        self.assertEqual((len(entries(anna)), anna.saved), (2, len(anna.diary)))
        self.assert_agrees(anna)

    def test_the_letter_is_the_next_one_of_the_ledger(self):
        bert = desk_with("bert", founding("bert", "carl"), letter("carl", 1, 6), letter("anna", 2, 9, carl=1))
        expected = bert.ledger(ROOM).next_letter("bert", ("mark", ("carl", 1), "star"))
        self.assertEqual(bert.write(ROOM, ("mark", ("carl", 1), "star")), ("bert", 1))
        self.assertEqual(bert.ledger(ROOM).letter(("bert", 1)).value(), expected.value())
        self.assertEqual(expected.value()[:4], ("bert", 1, 10, (("anna", 2), ("bert", 1), ("carl", 1))))
        self.assertEqual(bert.saved, len(bert.diary))
        self.assert_agrees(bert)

    def test_each_kind(self):
        anna = Desk("anna")
        room = anna.found("tea", "Tea", ("bert",))
        for number, body in enumerate([("say", "one"), ("reply", ("anna", 1), "two"), ("edit", ("anna", 2), "three"),
                                       ("recall", ("anna", 2)), ("mark", ("anna", 3), "star"), ("title", ""), ("add", "carl"),
                                       ("cut", "bert"), ("seen",), ("hand", "carl")], start=2):
            self.assertEqual(anna.write(room, body), ("anna", number))
            self.assertEqual(anna.ledger(room).letter(("anna", number)).body, body)
            self.assert_agrees(anna)

    def test_a_room_that_it_does_not_have(self):
        anna = Desk("anna")
        anna.found("tea", "Tea", ("bert",))
        for room in (("anna", "coffee"), ("bert", "tea"), ("zoe", "x")):
            for body in (("seen",), ("say", ""), None, ("found", "", ()), Touchy()):
                self.assert_refuses(anna, errors.Unknown, anna.write, room, body)

    def test_the_errors_in_their_order(self):
        anna = Desk("anna")
        room = anna.found("tea", "Tea", ("bert", "carl"))
        bert, carl, dora = [Desk(name) for name in ("bert", "carl", "dora")]
        anna.write(room, ("cut", "carl"))
        for desk in (bert, carl, dora):
            ask(desk, anna, room)
        for desk in (anna, bert, carl, dora):
            for body in odd_things() + [("found", "", ()), ("say", ""), ("add", "Zoe"), ("reply", ("zoe", 0), "")]:
                self.assert_refuses(desk, errors.BadBody, desk.write, room, body)
        for desk in (carl, dora):
            for body in (("seen",), ("add", "bert"), ("cut", "zoe"), ("recall", ("zoe", 1)), ("hand", "anna")):
                self.assert_refuses(desk, errors.NotMember, desk.write, room, body)
        for body in (("add", "anna"), ("cut", "zoe"), ("hand", "bert"), ("add", "zoe")):
            self.assert_refuses(bert, errors.NotKeeper, bert.write, room, body)
        for name in ("anna", "bert", "carl"):
            self.assert_refuses(anna, errors.Exists, anna.write, room, ("add", name))
        for body in (("cut", "zoe"), ("hand", "carl"), ("cut", "anna"), ("hand", "anna"), ("cut", "carl")):
            self.assert_refuses(anna, errors.Unknown, anna.write, room, body)
        for desk in (anna, bert):
            for body in (("recall", ("anna", 3)), ("edit", ("bert", 1), "x"), ("mark", ("zoe", 1), "x"), ("reply", ("carl", 1), "x")):
                self.assert_refuses(desk, errors.Unknown, desk.write, room, body)

    def test_what_was_not_saved_is_saved_by_it(self):
        bert = desk_with("bert", founding("bert"), letter("anna", 2, 2))
        other = ("carl", "tea")
        bert.take(other, founding("bert", author="carl"))
        self.assertEqual(bert.saved, 0)
        bert.write(ROOM, ("seen",))
        self.assertEqual((len(entries(bert)), bert.saved), (4, len(bert.diary)))
        bert.take(other, letter("carl", 2, 2))
        self.assertEqual(bert.saved, len("".join(entries(bert)[:4])))


class Taking(Desks):
    def test_the_founding_letter_begins_the_room(self):
        bert = Desk("bert")
        self.assert_takes(bert, ROOM, founding("bert"), [("anna", 1)])
        self.assertEqual((bert.rooms(), bert.saved), ([ROOM], 0))
        self.assert_takes(bert, ROOM, founding("bert"), [])
        self.assert_takes(bert, ("anna", "coffee"), founding(), [("anna", 1)])
        self.assertEqual(bert.rooms(), [("anna", "coffee"), ROOM])

    def test_a_founding_letter_of_another_founder(self):
        bert = Desk("bert")
        for first in (founding(author="bert"), founding("anna", author="carl")):
            before = desk_state(bert)
            self.assertEqual(bert.take(ROOM, first), [])
            self.assertEqual(desk_state(bert), before)
            self.assert_has_no(bert, ROOM)

    def test_other_letters_before_the_room_is_there_are_not_kept(self):
        bert = Desk("bert")
        for row in (letter("anna", 2, 2), letter("bert", 1, 2, anna=1), letter("anna", 1, 2)):
            before = desk_state(bert)
            self.assertEqual(bert.take(ROOM, row), [])
            self.assertEqual(desk_state(bert), before)
        self.assert_takes(bert, ROOM, founding("bert"), [("anna", 1)])
        self.assertEqual(bert.ledger(ROOM).waiting(), [])
        self.assert_takes(bert, ROOM, letter("anna", 2, 2), [("anna", 2)])

    def test_letters_that_wait_and_are_held_later(self):
        carl = desk_with("carl", founding("bert", "carl"))
        self.assert_takes(carl, ROOM, letter("bert", 2, 5, anna=2), [])
        self.assert_takes(carl, ROOM, letter("bert", 1, 4, anna=2), [])
        self.assert_takes(carl, ROOM, letter("anna", 3, 9), [])
        self.assertEqual(carl.ledger(ROOM).waiting(), [("anna", 3), ("bert", 1), ("bert", 2)])
        self.assert_takes(carl, ROOM, letter("anna", 2, 8), [("anna", 2), ("bert", 1), ("bert", 2), ("anna", 3)])

    def test_entries_of_different_rooms_stand_as_they_came(self):
        bert = Desk("bert")
        other = ("carl", "tea")
        steps = [(ROOM, founding("bert")), (other, founding("bert", author="carl")), (ROOM, letter("anna", 2, 2)),
                 (other, letter("carl", 2, 2)), (other, letter("carl", 3, 3)), (ROOM, letter("anna", 3, 3))]
        for room, row in steps:
            self.assert_takes(bert, room, row, [row.ref])
        self.assertEqual([(room, row.value()) for room, row in read_diary(bert.diary)[0]], [(room, row.value()) for room, row in steps])

    def test_rooms_with_the_same_founder_or_word_are_not_mixed(self):
        bert = Desk("bert")
        rooms = [("anna", "tea"), ("anna", "coffee"), ("carl", "tea")]
        for room in rooms:
            bert.take(room, founding("bert", author=room[0], title=room[1]))
        bert.take(rooms[0], letter("anna", 2, 2))
        self.assertEqual([bert.have(room) for room in rooms], [(("anna", 2),), (("anna", 1),), (("carl", 1),)])
        self.assert_agrees(bert)

    def test_the_errors_of_the_ledger(self):
        bert = desk_with("bert", founding("bert"), letter("anna", 2, 2), letter("anna", 4, 4))
        for row in (founding(), founding("bert", title="x"), founding("anna", author="carl"), founding("anna", author="bert")):
            self.assert_refuses(bert, errors.BadLetter, bert.take, ROOM, row)
        for row in (letter("anna", 2, 3), letter("anna", 4, 4, ("say", "x")), letter("anna", 1, 2)):
            self.assert_refuses(bert, errors.Contradiction, bert.take, ROOM, row)

    def test_save(self):
        bert = desk_with("bert", founding("bert"), letter("anna", 2, 2))
        diary = bert.diary
        self.assertEqual((bert.saved, bert.save(), bert.saved, bert.diary), (0, None, len(diary), diary))
        self.assert_takes(bert, ROOM, letter("anna", 3, 3), [("anna", 3)])
        self.assertEqual(bert.saved, len(diary))
        bert.save()
        self.assertEqual(bert.saved, len(bert.diary))

    def test_history_and_tail(self):
        bert = desk_with("bert", founding("bert"), letter("anna", 2, 2))
        self.assertEqual((refs(bert.history(ROOM)), refs(bert.tail(ROOM))), ([("anna", 1)], [("anna", 2)]))
        bert.write(ROOM, ("seen",))
        self.assertEqual((refs(bert.history(ROOM)), refs(bert.tail(ROOM))), ([("anna", 1), ("anna", 2)], [("bert", 1)]))
        self.assert_takes(bert, ROOM, letter("anna", 3, 4, ("cut", "bert"), bert=1), [("anna", 3)])
        self.assertEqual(refs(bert.history(ROOM)), [("anna", 1), ("anna", 2), ("bert", 1), ("anna", 3)])
        self.assertEqual(bert.tail(ROOM), [])

    def test_void_letters_are_neither_in_the_history_nor_in_the_tail(self):
        bert = desk_with("bert", founding("bert", "carl"), letter("carl", 1, 2), letter("carl", 2, 3), letter("carl", 3, 4))
        self.assert_takes(bert, ROOM, letter("anna", 2, 5, ("cut", "carl"), carl=1), [("anna", 2)])
        self.assertEqual((refs(bert.history(ROOM)), refs(bert.tail(ROOM))), ([("anna", 1)], [("carl", 1), ("anna", 2)]))

    def test_rooms_that_it_does_not_have(self):
        bert = desk_with("bert", founding("bert"))
        for room in (("anna", "coffee"), ("bert", "tea"), ("tea", "anna")):
            self.assert_has_no(bert, room)


class Giving(Desks):
    def setUp(self):
        """Anna's room, with dora cut at 1 and her second letter held; carl has not written."""
        self.rows = [founding("bert", "carl", "dora"), letter("dora", 1, 2), letter("bert", 1, 5), letter("dora", 2, 3),
                     letter("anna", 2, 6, ("cut", "dora"), bert=1, dora=1), letter("bert", 2, 7), letter("anna", 3, 4)]
        self.desk = desk_with("carl", *self.rows, letter("bert", 4, 9))

    def assert_lacking(self, counts, expected):
        answer = self.desk.lacking(ROOM, counts)
        self.assertEqual((type(answer), refs(answer)), (list, expected))
        for row in answer:
            self.assertEqual(row.value(), self.desk.ledger(ROOM).letter(row.ref).value())
        parcels = self.desk.handle("zoe", ("have", ROOM, counts))
        self.assertEqual(parcels, [("zoe", ("letters", ROOM, tuple(values(answer))))] if expected else [])

    def test_have(self):
        self.assertEqual(self.desk.have(ROOM), (("anna", 3), ("bert", 2), ("dora", 2)))

    def test_against_no_counts(self):
        self.assert_lacking((), [("anna", 1), ("dora", 1), ("bert", 1), ("anna", 2), ("bert", 2), ("anna", 3)])

    def test_against_counts_below_at_and_above_what_is_held(self):
        self.assert_lacking((("anna", 1), ("bert", 1)), [("dora", 1), ("anna", 2), ("bert", 2), ("anna", 3)])
        self.assert_lacking((("anna", 3), ("bert", 1), ("dora", 1)), [("bert", 2)])
        self.assert_lacking((("anna", 2), ("bert", 2), ("dora", 2)), [("anna", 3)])
        self.assert_lacking((("anna", 3), ("bert", 2), ("dora", 1)), [])
        self.assert_lacking((("anna", 10 ** 18), ("bert", 7), ("dora", 3)), [])
        self.assert_lacking((("bert", 10 ** 18),), [("anna", 1), ("dora", 1), ("anna", 2), ("anna", 3)])

    def test_against_counts_for_strangers(self):
        counts = (("aaa", 5), ("anna", 3), ("bert", 2), ("carl", 4), ("dora", 1), ("zoe", 9))
        self.assert_lacking(counts, [])
        self.assert_lacking(counts[:2] + counts[3:], [("bert", 1), ("bert", 2)])
        self.assert_lacking((("zoe", 1),), [("anna", 1), ("dora", 1), ("bert", 1), ("anna", 2), ("bert", 2), ("anna", 3)])

    def test_letters_that_do_not_count_or_wait_are_not_given(self):
        self.assertIn(("dora", 2), self.desk.ledger(ROOM))
        self.assertEqual(self.desk.ledger(ROOM).waiting(), [("bert", 4)])
        self.assert_lacking((("anna", 3), ("bert", 2), ("dora", 1)), [])
        self.assert_lacking((("anna", 3), ("bert", 2)), [("dora", 1)])

    def test_rooms_that_it_does_not_have(self):
        for room in (("anna", "coffee"), ("bert", "tea")):
            self.assert_has_no(self.desk, room)
            self.assertEqual(self.desk.handle("anna", ("have", room, ())), [])

    def test_what_is_passed_stays(self):
        counts = (("anna", 1),)
        self.desk.lacking(ROOM, counts).clear()
        self.assert_lacking(counts, [("dora", 1), ("bert", 1), ("anna", 2), ("bert", 2), ("anna", 3)])
        self.assertEqual(counts, (("anna", 1),))


class Handling(Desks):
    def setUp(self):
        self.first = founding("bert", "carl")
        self.rows = [letter("bert", 1, 2, anna=1), letter("anna", 2, 3, bert=1), letter("carl", 1, 4, anna=2, bert=1)]

    def handle(self, desk, *rows):
        """Let a desk handle a parcel with the values of letters, which has no answer."""
        parcel = ("letters", ROOM, tuple(values(rows)))
        self.assertTrue(is_parcel(parcel))
        answers = desk.handle("zoe", parcel)
        self.assertEqual((type(answers), answers), (list, []))
        self.assert_agrees(desk)

    def test_letters(self):
        bert = Desk("bert")
        self.handle(bert, self.first, *self.rows)
        self.assertEqual(values(bert.ledger(ROOM)), values([self.first] + self.rows))
        self.assertEqual((len(entries(bert)), bert.saved), (4, 0))

    def test_letters_that_are_held_already(self):
        bert = desk_with("bert", self.first, self.rows[0])
        self.handle(bert, self.first, self.rows[0], self.rows[1], self.rows[1], self.rows[0])
        self.assertEqual(refs(bert.ledger(ROOM)), [("anna", 1), ("bert", 1), ("anna", 2)])

    def test_letters_in_any_order(self):
        ends = []
        for seed in range(10):
            bert = desk_with("bert", self.first)
            self.handle(bert, *random.Random(seed).sample(self.rows, 3))
            ends.append(sorted(values(bert.ledger(ROOM))))
        self.assertEqual(ends, [sorted(values([self.first] + self.rows))] * 10)

    def test_letters_before_the_founding_letter_are_lost(self):
        bert = Desk("bert")
        self.handle(bert, self.rows[0], self.first, self.rows[1], self.rows[2])
        self.assertEqual((refs(bert.ledger(ROOM)), bert.ledger(ROOM).waiting()), ([("anna", 1)], [("anna", 2), ("carl", 1)]))

    def test_letters_that_contradict_are_passed_over(self):
        bert = desk_with("bert", self.first, self.rows[0], letter("carl", 2, 9))
        before = desk_state(bert)
        self.handle(bert, letter("bert", 1, 3), letter("carl", 2, 8), letter("anna", 1, 2))
        self.assertEqual(desk_state(bert), before)
        self.handle(bert, letter("bert", 1, 3), self.rows[1], letter("carl", 2, 8), letter("anna", 2, 9), self.rows[2])
        self.assertEqual(refs(bert.ledger(ROOM)), [("anna", 1), ("bert", 1), ("anna", 2), ("carl", 1), ("carl", 2)])

    def test_other_founding_letters_are_passed_over(self):
        bert = desk_with("bert", self.first)
        before = desk_state(bert)
        self.handle(bert, founding(), founding("bert", author="carl"), founding("anna", author="bert"))
        self.assertEqual(desk_state(bert), before)
        self.handle(bert, founding(), self.rows[0])
        self.assertEqual(refs(bert.ledger(ROOM)), [("anna", 1), ("bert", 1)])

    def test_nothing_to_give(self):
        anna = desk_with("anna", self.first, *self.rows)
        self.assertEqual(anna.handle("bert", ("have", ROOM, anna.have(ROOM))), [])
        self.assertEqual(anna.handle("bert", ("have", ("bert", "tea"), ())), [])
        self.assertEqual(Desk("bert").handle("anna", ("have", ROOM, ())), [])

    def test_the_answer_goes_to_the_sender_whoever_that_is(self):
        anna = desk_with("anna", self.first, *self.rows)
        before = desk_state(anna)
        for sender in ("anna", "bert", "carl", "zoe"):
            answers = anna.handle(sender, ("have", ROOM, (("anna", 2),)))
            self.assertEqual(answers, [(sender, ("letters", ROOM, tuple(values([self.rows[0], self.rows[2]]))))])
            self.assertEqual((type(answers), type(answers[0])), (list, tuple))
            self.assertTrue(is_parcel(answers[0][1]))
        self.assertEqual(desk_state(anna), before)

    def test_it_does_not_matter_who_sent_letters(self):
        for sender in ("anna", "bert", "zoe"):
            bert = Desk("bert")
            self.assertEqual(bert.handle(sender, ("letters", ROOM, tuple(values([self.first] + self.rows)))), [])
            self.assertEqual(bert.have(ROOM), (("anna", 2), ("bert", 1), ("carl", 1)))


class Together(Desks):
    def test_two_desks_that_swap_what_they_lack(self):
        met = {"cuts": 0, "hands": 0, "swaps": 0}
        for seed in range(60):
            town = HonestDesks(seed, people=NAMES[:4 + seed % 3], many_rooms=1, acts=[0.1, 0.3, 0.6][seed // 3 % 3])
            room = town.rooms[0]
            for _ in range(60 + 2 * seed):
                town.step()
            for _ in range(8):
                one, other = town.chance.sample(sorted(town.desks), 2)
                one, other = town.desks[one], town.desks[other]
                if [desk for desk in (one, other) if room in desk.rooms() and desk.ledger(room).waiting()]:
                    continue
                for asker, giver in ((one, other), (other, one)):
                    for row in giver.lacking(room, asker.have(room)):
                        asker.take(room, row)
                if room not in one.rooms():
                    continue
                ends = [(roll_state(desk.ledger(room).roll), counting(desk.ledger(room)), values(desk.history(room)),
                         values(desk.tail(room)), desk.ledger(room).waiting()) for desk in (one, other)]
                self.assertEqual(ends[0], ends[1], seed)
                self.assertEqual((one.lacking(room, other.have(room)), other.lacking(room, one.have(room))), ([], []))
                met["swaps"] += 1
                met["cuts"] += len(ends[0][0]["cuts"])
                met["hands"] += ends[0][0]["keeper"] != "anna"
        self.assertGreater(min(met.values()), 10, met)

    def test_desks_that_swap_while_one_holds_void_letters(self):
        anna, bert, carl = [Desk(name) for name in ("anna", "bert", "carl")]
        room = anna.found("tea", "Tea", ("bert", "carl"))
        for desk in (bert, carl):
            ask(desk, anna, room)
        carl.write(room, ("say", "one"))
        ask(anna, carl, room)
        for text in ("two", "three"):
            carl.write(room, ("say", text))
        ask(bert, carl, room)
        bert.write(room, ("reply", ("carl", 3), "I have seen what will be void"))
        anna.write(room, ("cut", "carl"))
        anna.write(room, ("add", "dora"))
        self.assertEqual(refs(anna.lacking(room, bert.have(room))), [("anna", 2), ("anna", 3)])
        for row in anna.lacking(room, bert.have(room)):
            bert.take(room, row)
        self.assertEqual(refs(bert.lacking(room, anna.have(room))), [("bert", 1)])
        for row in bert.lacking(room, anna.have(room)):
            anna.take(room, row)
        self.assertEqual((anna.have(room), bert.have(room)), ((("anna", 3), ("bert", 1), ("carl", 1)),
                                                              (("anna", 3), ("bert", 1), ("carl", 3))))
        for desk in (anna, bert):
            self.assert_agrees(desk)
            self.assertEqual(desk.ledger(room).waiting(), [])
            self.assertEqual(roll_state(desk.ledger(room).roll), roll_state(anna.ledger(room).roll))
            self.assertEqual(counting(desk.ledger(room)), counting(anna.ledger(room)))
            self.assertEqual(refs(desk.history(room)), [("anna", 1), ("carl", 1)])
            self.assertEqual(refs(desk.tail(room)), [("anna", 2), ("anna", 3), ("bert", 1)])

    def test_histories_of_honest_desks(self):
        settled_ones = 0
        for seed in range(25):
            town = HonestDesks(seed, people=NAMES[:2 + seed % 4], many_rooms=1 + seed % 2, acts=[0.05, 0.3][seed % 2])
            longest = {room: [] for room in town.rooms}
            for _ in range(250):
                desk = town.step()
                for room in desk.rooms():
                    ledger, now = desk.ledger(room), values(desk.history(room))
                    self.assertEqual((now, values(desk.tail(room))), (values(settled(ledger)), values(tail(ledger))), seed)
                    many = min(len(now), len(longest[room]))
                    self.assertEqual(now[:many], longest[room][:many], seed)
                    longest[room] = max(now, longest[room], key=len)
            self.assert_agrees(desk)
            settled_ones += sum([len(row) for row in longest.values()])
        self.assertGreater(settled_ones, 150)

    def test_all_settles_when_all_have_met(self):
        for seed in range(8):
            town = HonestDesks(seed, people=NAMES[:4], many_rooms=1, acts=0.2)
            for _ in range(150):
                town.step()
            room, desks = town.rooms[0], list(town.desks.values())
            exchange(desks, room)
            before = counting(desks[0].ledger(room))
            members = desks[0].ledger(room).roll.members()
            for name in members:
                town.desks[name].write(room, ("seen",))
            exchange(desks, room)
            for name in members:
                self.assertEqual(values(town.desks[name].history(room)), values(town.desks[members[0]].history(room)))
                self.assertLessEqual(set(before), set(values(town.desks[name].history(room))))

    def test_two_desks_have_no_effect_on_each_other(self):
        one, other = Desk("anna"), Desk("anna")
        one.found("tea", "Tea", ("bert",))
        self.assertEqual(desk_state(other), desk_state(Desk("anna")))
        copy = Desk("anna", diary=one.diary)
        before = desk_state(copy)
        one.write(ROOM, ("cut", "bert"))
        one.take(ROOM, letter("anna", 4, 9))
        self.assertEqual(desk_state(copy), before)
        bert = Desk("bert")
        ask(bert, copy, ROOM)
        before = desk_state(copy)
        bert.write(ROOM, ("say", "hello"))
        self.assertEqual(desk_state(copy), before)

    def test_what_is_returned_is_new(self):
        desk = desk_with("bert", founding("bert"), letter("anna", 2, 2))
        before = desk_state(desk)
        for answer in (desk.rooms(), desk.history(ROOM), desk.tail(ROOM), desk.lacking(ROOM, ()), desk.lacking(("zoe", "x"), ()),
                       desk.handle("anna", ("have", ROOM, ())), desk.take(ROOM, letter("anna", 2, 2))):
            self.assertIs(type(answer), list)
            answer.append("more")
            answer.clear()
        self.assertEqual(desk_state(desk), before)
        desk.take(ROOM, letter("anna", 3, 3)).clear()
        self.assertEqual(desk.have(ROOM), (("anna", 3),))

    def test_a_room_with_more_than_a_thousand_letters(self):
        started = time.perf_counter()
        chance = random.Random(1)
        people = NAMES[:6]
        desks = {name: Desk(name) for name in people}
        room = desks["anna"].found("tea", "Tea", tuple(people[1:]))
        exchange(list(desks.values()), room)
        for number in range(1500):
            name = chance.choice(people)
            desks[name].write(room, ("say", f"This is what {name} has to say:\nnumber {number}, and nothing else."))
            if number % 4 == 0:
                one, other = chance.sample(people, 2)
                ask(desks[one], desks[other], room)
        exchange(list(desks.values()), room)
        anna = desks["anna"]
        self.assertEqual(len(anna.ledger(room)), 1501)
        made = Desk("anna", diary=anna.diary)
        self.assertEqual(values(made.history(room)), values(anna.history(room)))
        fresh = Desk("gina")
        for row in reversed(anna.ledger(room).letters()[1:]):
            fresh.take(room, row)
        fresh.take(room, anna.ledger(room).letter(("anna", 1)))
        for row in reversed(anna.ledger(room).letters()):
            fresh.handle("anna", ("letters", room, (row.value(),)))
        self.assertEqual((counting(fresh.ledger(room)), values(fresh.history(room))),
                         (counting(anna.ledger(room)), values(anna.history(room))))
        self.assertLess(time.perf_counter() - started, 10)


if __name__ == "__main__":
    unittest.main()
