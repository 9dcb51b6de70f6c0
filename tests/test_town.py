"""Tests of lettersonce.town: points 9.1 to 9.4, and points 0.3, 3.6 to 3.8, 7.1 and 7.2 over whole towns."""

import unittest

from lettersonce import errors
from lettersonce.archive import archive, read_archive, read_beginning
from lettersonce.desk import Desk
from lettersonce.diary import entry, read_diary
from lettersonce.post import Post
from lettersonce.settling import settled, tail
from lettersonce.town import Town

from desks import desk_state
from rooms import NAMES, refs, values
from samples import TouchyText, Touchy, odd_things
from towns import BusyTown, fetch, have_room, history_values, one_begins_the_other, town_of, town_state

ROOM = ("anna", "tea")
GREAT = 10 ** 18


class Towns(unittest.TestCase):
    def setUp(self):
        """A town of three; anna's room is with bert, who has it, and with carl, who does not have it yet."""
        self.town = Town(["anna", "bert", "carl"])
        self.town.found("anna", "tea", "Tea", ("bert", "carl"))
        fetch(self.town, "bert", "anna", ROOM)

    def assert_refuses(self, error, call, *arguments):
        """Assert that a call raises just this error, and that nothing has changed in the town."""
        before = town_state(self.town)
        with self.assertRaises(error) as caught:
            call(*arguments)
        self.assertIs(type(caught.exception), error)
        self.assertEqual(town_state(self.town), before)

    def assert_only(self, before, **changed):
        """Assert that nothing of the town has changed since but what is named, with what is there now."""
        self.assertEqual(town_state(self.town), {**before, **changed})

    def others_state(self, name):
        """Return all that the town tells of the others, and of its post."""
        told = town_state(self.town)
        others = [other for other in self.town.people if other != name]
        return (told["people"], told["parcels"], told["sent"],
                [(self.town.is_up(other), self.town.kept(other)) for other in others],
                [desk_state(self.town.desk(other)) for other in others if self.town.is_up(other)])


class Making(Towns):
    def test_a_new_town(self):
        for many in range(1, 9):
            names = NAMES[:many]
            town = Town(names)
            self.assertEqual((town.people, type(town.people)), (tuple(NAMES[:many]), tuple))
            self.assertIs(type(town.post), Post)
            self.assertEqual((town.post.numbers(), town.post.sent), ([], 0))
            for name in names:
                self.assertIs(town.is_up(name), True)
                self.assertEqual(town.kept(name), "")
                self.assertIs(type(town.desk(name)), Desk)
                self.assertEqual(desk_state(town.desk(name)), desk_state(Desk(name)))

    def test_the_people_stand_in_the_order_of_the_list(self):
        self.assertEqual(Town(["carl", "anna", "zoe", "bert"]).people, ("carl", "anna", "zoe", "bert"))

    def test_the_list_stays_and_is_not_kept(self):
        names = ["bert", "anna"]
        town = Town(names)
        self.assertEqual(names, ["bert", "anna"])
        names.append("carl")
        names[0] = "dora"
        self.assertEqual(town.people, ("bert", "anna"))
        self.assertEqual((town.is_up("bert"), town.kept("anna")), (True, ""))
        self.assertRaises(errors.Unknown, town.is_up, "carl")

    def test_too_few_and_too_many(self):
        for names in ([], NAMES + ["zoe"], NAMES * 2, [f"p{number}" for number in range(100)]):
            before = list(names)
            self.assertRaises(errors.BadValue, Town, names)
            self.assertEqual(names, before)

    def test_names_that_stand_twice(self):
        for names in (["anna", "anna"], ["anna", "bert", "anna"], NAMES[:7] + ["bert"], ["a"] * 8):
            self.assertRaises(errors.BadValue, Town, names)

    def test_things_that_are_no_names(self):
        for thing in odd_things() + ["", "Anna", "7up", "a" * 13, "an na", TouchyText("zoe")]:
            for names in ([thing], ["anna", thing], [thing, "anna"], ["anna", thing, "bert"], [thing, thing], ["anna"] * 8 + [thing],
                          NAMES[:7] + [thing], ["anna", "anna", thing]):
                with self.assertRaises(errors.BadValue) as caught:
                    Town(names)
                self.assertIs(type(caught.exception), errors.BadValue)

    def test_two_towns_have_no_effect_on_each_other(self):
        other = Town(["anna", "bert", "carl"])
        before = town_state(other)
        self.town.write("anna", ROOM, ("say", "hello"))
        self.town.ask("anna", "bert", ROOM)
        self.town.stop("carl", 0)
        self.assertEqual(town_state(other), before)
        self.assertEqual(other.ask("carl", "anna", ROOM), 1)


class Looking(Towns):
    def test_strangers(self):
        for name in ("dora", "zoe", "ann", "annab", "tea"):
            for call in (self.town.is_up, self.town.desk, self.town.kept):
                self.assert_refuses(errors.Unknown, call, name)

    def test_a_desk_that_is_down(self):
        self.town.stop("bert", 0)
        self.assertIs(self.town.is_up("bert"), False)
        self.assertEqual(self.town.kept("bert"), "")
        self.assert_refuses(errors.Down, self.town.desk, "bert")
        self.assertEqual((self.town.is_up("anna"), self.town.is_up("carl")), (True, True))
        self.town.start("bert")
        self.assertIs(self.town.is_up("bert"), True)
        self.assertIs(type(self.town.desk("bert")), Desk)

    def test_kept_of_a_desk_that_is_up_is_its_whole_diary(self):
        desk = self.town.desk("bert")
        self.assertEqual(desk.saved, 0)
        self.assertEqual(self.town.kept("bert"), desk.diary)
        self.assertEqual(refs([row for _, row in read_diary(desk.diary)[0]]), [("anna", 1)])

    def test_looking_changes_nothing(self):
        self.town.stop("carl", 0)
        before = town_state(self.town)
        for name in ("anna", "bert"):
            self.town.is_up(name), self.town.desk(name), self.town.kept(name)
        self.town.is_up("carl"), self.town.kept("carl")
        self.assertEqual(town_state(self.town), before)

    def test_the_arguments_by_name(self):
        town = Town(names=["anna", "bert"])
        room = town.found(members=("bert",), title="Tea", word="tea", name="anna")
        self.assertEqual(town.write(body=("seen",), room=room, name="anna"), ("anna", 2))
        self.assertEqual(town.ask(room=room, other="anna", name="bert"), 1)
        self.assertEqual(town.deliver(number=1), [2])
        self.assertIsNone(town.lose(number=1))
        self.assertIsNone(town.save(name="bert"))
        self.assertIsNone(town.stop(keep=0, name="bert"))
        self.assertEqual((town.kept(name="bert"), town.is_up(name="bert")), ("", False))
        self.assertIsNone(town.start(name="bert"))
        self.assertEqual(town.desk(name="bert").name, "bert")


class Writing(Towns):
    def test_found(self):
        room = self.town.found("carl", "tea", "Coffee", ("anna", "zoe"))
        self.assertEqual((room, type(room)), (("carl", "tea"), tuple))
        desk = self.town.desk("carl")
        self.assertEqual((desk.rooms(), desk.ledger(room).roll.members()), ([room], ["carl", "anna", "zoe"]))
        self.assertEqual(desk.ledger(room).letter(("carl", 1)).body, ("found", "Coffee", ("anna", "zoe")))
        self.assertEqual((desk.saved, self.town.kept("carl")), (len(desk.diary), desk.diary))
        self.assertEqual(self.town.desk("anna").rooms(), [ROOM])

    def test_write(self):
        others = self.others_state("bert")
        ref = self.town.write("bert", ROOM, ("say", "hello"))
        self.assertEqual((ref, type(ref)), (("bert", 1), tuple))
        desk = self.town.desk("bert")
        self.assertEqual(desk.ledger(ROOM).letter(ref).value(), ("bert", 1, 2, (("anna", 1), ("bert", 1)), ("say", "hello")))
        self.assertEqual(desk.saved, len(desk.diary))
        self.assertEqual(self.others_state("bert"), others)

    def test_save(self):
        others = self.others_state("bert")
        self.assertEqual(self.town.desk("bert").saved, 0)
        self.assertIsNone(self.town.save("bert"))
        desk = self.town.desk("bert")
        self.assertEqual((desk.saved, len(desk.diary)), (len(self.town.kept("bert")),) * 2)
        self.assertGreater(desk.saved, 0)
        self.assertEqual(self.others_state("bert"), others)

    def test_a_town_is_as_desks_that_do_the_same(self):
        anna, bert = Desk("anna"), Desk("bert")
        room = anna.found("tea", "Tea", ("bert", "carl"))
        bert.handle("anna", anna.handle("bert", ("have", room, ()))[0][1])
        self.assertEqual([desk_state(self.town.desk(name)) for name in self.town.people],
                         [desk_state(desk) for desk in (anna, bert, Desk("carl"))])


class Sending(Towns):
    def test_ask(self):
        self.town.write("anna", ROOM, ("say", "hello"))
        before = town_state(self.town)
        sent = before["sent"]
        asked = [("anna", "bert", (("anna", 2),)), ("bert", "anna", (("anna", 1),)), ("carl", "anna", ()),
                 ("anna", "anna", (("anna", 2),)), ("carl", "carl", ())]
        for number, (name, other, counts) in enumerate(asked, start=sent + 1):
            answer = self.town.ask(name, other, ROOM)
            self.assertEqual((answer, type(answer)), (number, int))
            self.assertEqual(self.town.post.parcel(number), (name, other, ("have", ROOM, counts)))
        parcels = [(sent + 1 + place, (name, other, ("have", ROOM, counts))) for place, (name, other, counts) in enumerate(asked)]
        self.assert_only(before, parcels=parcels, sent=sent + len(asked))

    def test_ask_for_a_room_that_nobody_has(self):
        number = self.town.ask("anna", "bert", ("zoe", "x"))
        self.assertEqual(self.town.post.parcel(number), ("anna", "bert", ("have", ("zoe", "x"), ())))
        self.assertEqual(self.town.deliver(number), [])

    def test_ask_a_desk_that_is_down(self):
        self.town.stop("bert", 0)
        before = town_state(self.town)
        number = self.town.ask("anna", "bert", ROOM)
        self.assert_only(before, parcels=[(number, ("anna", "bert", ("have", ROOM, (("anna", 1),))))], sent=before["sent"] + 1)
        self.town.start("bert")
        self.assertEqual(self.town.deliver(number), [])

    def test_the_counts_are_those_of_the_moment_of_asking(self):
        number = self.town.ask("bert", "anna", ROOM)
        self.town.write("bert", ROOM, ("seen",))
        self.town.write("anna", ROOM, ("seen",))
        self.assertEqual(self.town.post.parcel(number), ("bert", "anna", ("have", ROOM, (("anna", 1),))))

    def test_deliver_a_question(self):
        self.town.write("anna", ROOM, ("say", "hello"))
        asked = self.town.ask("bert", "anna", ROOM)
        before = town_state(self.town)
        answer = self.town.deliver(asked)
        self.assertEqual((answer, type(answer)), ([asked + 1], list))
        value = self.town.desk("anna").ledger(ROOM).letter(("anna", 2)).value()
        self.assert_only(before, sent=asked + 1,
                         parcels=before["parcels"] + [(asked + 1, ("anna", "bert", ("letters", ROOM, (value,))))])
        self.assertEqual(self.town.desk("bert").have(ROOM), (("anna", 1),))

    def test_deliver_a_question_that_has_no_answer(self):
        for name, other in (("bert", "anna"), ("anna", "bert"), ("anna", "carl"), ("anna", "anna"), ("carl", "carl")):
            asked = self.town.ask(name, other, ROOM)
            before = town_state(self.town)
            answer = self.town.deliver(asked)
            self.assertEqual((answer, type(answer)), ([], list))
            self.assert_only(before)

    def test_a_question_to_itself_that_has_an_answer(self):
        asked = self.town.ask("anna", "anna", ROOM)
        self.town.write("anna", ROOM, ("say", "later"))
        self.assertEqual(self.town.deliver(asked), [asked + 1])
        sender, receiver, parcel = self.town.post.parcel(asked + 1)
        self.assertEqual((sender, receiver, [value[:2] for value in parcel[2]]), ("anna", "anna", [("anna", 2)]))
        before = town_state(self.town)
        self.assertEqual(self.town.deliver(asked + 1), [])
        self.assert_only(before)

    def test_deliver_letters(self):
        asked = self.town.ask("carl", "anna", ROOM)
        self.town.write("anna", ROOM, ("say", "hello"))
        self.assertEqual(self.town.deliver(asked), [asked + 1])
        others = self.others_state("carl")
        self.assertEqual(self.town.deliver(asked + 1), [])
        self.assertEqual(self.others_state("carl"), others)
        desk = self.town.desk("carl")
        self.assertEqual((refs(desk.ledger(ROOM)), desk.saved), ([("anna", 1), ("anna", 2)], 0))
        self.assertEqual(self.town.kept("carl"), desk.diary)

    def test_a_parcel_may_be_delivered_again(self):
        asked = self.town.ask("carl", "anna", ROOM)
        self.assertEqual([self.town.deliver(asked) for _ in range(3)], [[asked + 1], [asked + 2], [asked + 3]])
        self.assertEqual(len({self.town.post.parcel(asked + number) for number in (1, 2, 3)}), 1)
        self.assertEqual(self.town.deliver(asked + 2), [])
        self.assertEqual(self.town.desk("carl").have(ROOM), (("anna", 1),))
        before = town_state(self.town)
        for number in (1, 2, 3, 2):
            self.assertEqual(self.town.deliver(asked + number), [])
        self.assert_only(before)
        self.town.write("anna", ROOM, ("seen",))
        self.assertEqual(self.town.deliver(asked), [asked + 4])
        self.assertEqual([value[:2] for value in self.town.post.parcel(asked + 4)[2][2]], [("anna", 1), ("anna", 2)])
        self.assertEqual(self.town.post.numbers(), [asked + number for number in range(5)])

    def test_lose(self):
        numbers = [self.town.ask("bert", "anna", ROOM) for _ in range(3)]
        before = town_state(self.town)
        self.assertIsNone(self.town.lose(numbers[1]))
        self.assert_only(before, parcels=[before["parcels"][0], before["parcels"][2]])
        self.assertEqual(self.town.ask("bert", "anna", ROOM), numbers[2] + 1)

    def test_letters_of_a_room_that_the_desk_has_lost(self):
        asked = self.town.ask("bert", "anna", ROOM)
        self.town.write("anna", ROOM, ("say", "two"))
        self.town.stop("bert", 0)
        self.town.start("bert")
        given = self.town.deliver(asked)[0]
        self.assertEqual([value[:2] for value in self.town.post.parcel(given)[2][2]], [("anna", 2)])
        self.town.deliver(given)
        self.assertEqual((self.town.desk("bert").rooms(), self.town.kept("bert")), ([], ""))
        fetch(self.town, "bert", "anna", ROOM)
        self.assertEqual(self.town.desk("bert").have(ROOM), (("anna", 2),))

    def test_letters_that_come_too_early_wait(self):
        self.town.save("bert")
        for text in ("two", "three"):
            self.town.write("anna", ROOM, ("say", text))
        late = self.town.deliver(self.town.ask("bert", "anna", ROOM))[0]
        self.town.deliver(late)
        asked = self.town.ask("bert", "anna", ROOM)
        self.town.stop("bert", 0)
        self.town.start("bert")
        self.town.write("anna", ROOM, ("say", "four"))
        self.town.deliver(self.town.deliver(asked)[0])
        self.assertEqual((self.town.desk("bert").have(ROOM), self.town.desk("bert").ledger(ROOM).waiting()),
                         ((("anna", 1),), [("anna", 4)]))
        self.town.deliver(late)
        self.assertEqual((self.town.desk("bert").have(ROOM), self.town.desk("bert").ledger(ROOM).waiting()), ((("anna", 4),), []))
        self.assertEqual(refs([row for _, row in read_diary(self.town.kept("bert"))[0]]), [("anna", number) for number in (1, 2, 3, 4)])

    def test_what_is_returned_is_new(self):
        asked = self.town.ask("carl", "anna", ROOM)
        answer = self.town.deliver(asked)
        before = town_state(self.town)
        answer.append(9)
        answer.clear()
        self.assert_only(before)


class Stopping(Towns):
    def setUp(self):
        """Bert has saved the first entry and his own, and has two more that are not saved."""
        super().setUp()
        self.town.write("bert", ROOM, ("say", "hello"))
        for text in ("one", "two"):
            self.town.write("anna", ROOM, ("say", text))
        fetch(self.town, "bert", "anna", ROOM)
        desk = self.town.desk("bert")
        self.diary, self.saved = desk.diary, desk.saved
        self.parts = [entry(ROOM, row) for row in desk.ledger(ROOM)]
        self.assertEqual((len(self.parts), self.saved), (4, len("".join(self.parts[:2]))))

    def test_stop_and_start_with_each_number_of_characters(self):
        left = len(self.diary) - self.saved
        for keep in list(range(left + 3)) + [left + 1000, GREAT, 10 ** 30]:
            with self.subTest(keep):
                town = self.town
                others = self.others_state("bert")
                self.assertIsNone(town.stop("bert", keep))
                text = self.diary[:self.saved + keep]
                self.assertEqual((town.is_up("bert"), town.kept("bert")), (False, text))
                self.assertEqual(self.others_state("bert"), others)
                self.assertIsNone(town.start("bert"))
                self.assertEqual(self.others_state("bert"), others)
                self.assertIs(town.is_up("bert"), True)
                self.assertEqual(desk_state(town.desk("bert")), desk_state(Desk("bert", diary=text)))
                many = 2 + (keep >= len(self.parts[2])) + (keep >= left)
                self.assertEqual(town.kept("bert"), "".join(self.parts[:many]))
                self.assertEqual(town.desk("bert").saved, len("".join(self.parts[:many])))
                self.setUp()

    def test_stop_a_desk_without_anything_that_is_not_saved(self):
        self.town.save("bert")
        for keep in (0, 1, 500):
            self.town.stop("bert", keep)
            self.assertEqual(self.town.kept("bert"), self.diary)
            self.town.start("bert")
            self.assertEqual((self.town.kept("bert"), self.town.desk("bert").saved), (self.diary, len(self.diary)))

    def test_stop_a_new_desk(self):
        self.town.stop("carl", 5)
        self.assertEqual((self.town.is_up("carl"), self.town.kept("carl")), (False, ""))
        self.town.start("carl")
        self.assertEqual(desk_state(self.town.desk("carl")), desk_state(Desk("carl")))

    def test_to_stop_a_desk_that_is_down_does_nothing(self):
        self.town.stop("bert", 3)
        before = town_state(self.town)
        for keep in (0, 1, 3, 4, 1000):
            self.assertIsNone(self.town.stop("bert", keep))
            self.assert_only(before)

    def test_to_start_a_desk_that_is_up_does_nothing(self):
        before = town_state(self.town)
        for name in self.town.people:
            desk = self.town.desk(name)
            self.assertIsNone(self.town.start(name))
            self.assert_only(before)
            self.assertIs(self.town.desk(name), desk)

    def test_letters_that_waited_are_lost_by_a_stop(self):
        asked = self.town.ask("bert", "anna", ROOM)
        self.town.stop("bert", 0)
        self.town.start("bert")
        self.town.write("anna", ROOM, ("say", "three"))
        self.town.deliver(self.town.deliver(asked)[0])
        self.assertEqual(self.town.desk("bert").ledger(ROOM).waiting(), [("anna", 4)])
        self.town.stop("bert", 1000)
        self.assertEqual(self.town.kept("bert"), "".join(self.parts[:2]))
        self.town.start("bert")
        self.assertEqual(self.town.desk("bert").have(ROOM), (("anna", 1), ("bert", 1)))
        self.assertEqual(self.town.desk("bert").ledger(ROOM).waiting(), [])

    def test_several_desks_go_down_and_come_up(self):
        kept = {name: self.town.kept(name) for name in self.town.people}
        for name in self.town.people:
            self.town.stop(name, 10 ** 6)
        self.assertEqual([self.town.is_up(name) for name in self.town.people], [False] * 3)
        self.assertEqual({name: self.town.kept(name) for name in self.town.people}, kept)
        for name in reversed(self.town.people):
            self.town.start(name)
        self.assertEqual({name: self.town.desk(name).diary for name in self.town.people}, kept)

    def test_parcels_outlive_their_senders_and_receivers(self):
        asked = self.town.ask("carl", "anna", ROOM)
        self.town.stop("carl", 0)
        self.assertEqual(self.town.deliver(asked), [asked + 1])
        self.town.stop("anna", 0)
        self.assert_refuses(errors.Down, self.town.deliver, asked + 1)
        self.town.start("carl")
        self.assertEqual(self.town.deliver(asked + 1), [])
        self.assertEqual(len(self.town.desk("carl").ledger(ROOM)), 3)

    def test_it_goes_on_with_the_numbers_that_it_had(self):
        self.town.stop("bert", 0)
        self.town.start("bert")
        self.assertEqual(self.town.write("bert", ROOM, ("seen",)), ("bert", 2))
        self.assertEqual(self.town.desk("bert").ledger(ROOM).letter(("bert", 2)).seen, (("anna", 1), ("bert", 2)))
        self.assertEqual(self.town.kept("bert")[:self.saved], self.diary[:self.saved])


class Errors(Towns):
    def deeds_of(self, name):
        """Return each deed that needs the desk of this person, and for which the desk has no error."""
        town = self.town
        return [(town.found, name, "milk", "Milk", ()), (town.write, name, ROOM, ("seen",)), (town.save, name),
                (town.ask, name, "anna", ROOM), (town.ask, name, name, ROOM), (town.ask, name, "carl", ("zoe", "x"))]

    def wrong_deeds_of(self, name):
        """Return deeds for which the desk has an error."""
        town = self.town
        return [(town.found, name, "Milk", "Milk", ()), (town.found, name, Touchy(), Touchy(), Touchy()),
                (town.found, name, "milk", "Milk", (name,)), (town.write, name, ("zoe", "x"), ("seen",)),
                (town.write, name, ROOM, ("say", "")), (town.write, name, ROOM, Touchy()), (town.write, name, ROOM, ("add", "zoe"))]

    def test_strangers(self):
        self.town.stop("bert", 0)
        for name in ("dora", "ann", "zoe"):
            for deed in self.deeds_of(name) + self.wrong_deeds_of(name):
                self.assert_refuses(errors.Unknown, *deed)
            for keep in (0, 7):
                self.assert_refuses(errors.Unknown, self.town.stop, name, keep)
            self.assert_refuses(errors.Unknown, self.town.start, name)
            for known in ("anna", "bert", "carl"):
                self.assert_refuses(errors.Unknown, self.town.ask, known, name, ROOM)
                self.assert_refuses(errors.Unknown, self.town.ask, name, known, ROOM)
            self.assert_refuses(errors.Unknown, self.town.ask, name, name, ROOM)

    def test_desks_that_are_down(self):
        for name in self.town.people:
            self.town.stop(name, 10 ** 6)
            for deed in self.deeds_of(name) + self.wrong_deeds_of(name):
                self.assert_refuses(errors.Down, *deed)
            self.town.start(name)

    def test_numbers_that_are_not_there(self):
        numbers = [self.town.ask("carl", "anna", ROOM), self.town.ask("carl", "bert", ROOM)]
        self.town.lose(numbers[0])
        for names in ((), ("anna",), ("anna", "bert"), ("anna", "bert", "carl")):
            for name in names:
                self.town.stop(name, 0)
            for number in (0, -1, 1, numbers[0], numbers[1] + 1, GREAT, 10 ** 40, -GREAT):
                self.assert_refuses(errors.Unknown, self.town.deliver, number)
                self.assert_refuses(errors.Unknown, self.town.lose, number)
        self.assertIsNone(self.town.lose(numbers[1]))
        for number in numbers:
            self.assert_refuses(errors.Unknown, self.town.deliver, number)

    def test_deliver_to_a_desk_that_is_down(self):
        asked = self.town.ask("carl", "anna", ROOM)
        given = self.town.deliver(asked)[0]
        for name, number in (("anna", asked), ("carl", given)):
            self.town.stop(name, 0)
            self.assert_refuses(errors.Down, self.town.deliver, number)
            self.town.start(name)
        self.town.stop("anna", 0)
        self.assertEqual(self.town.deliver(given), [])
        self.assertIsNone(self.town.lose(asked))

    def test_errors_of_the_desk_when_founding(self):
        for thing in odd_things():
            self.assert_refuses(errors.BadBody, self.town.found, "anna", thing, "Milk", ())
            self.assert_refuses(errors.BadBody, self.town.found, "anna", "milk", thing, ())
            if not (type(thing) is tuple and thing == ()):
                self.assert_refuses(errors.BadBody, self.town.found, "anna", "milk", "Milk", thing)
        self.assert_refuses(errors.BadBody, self.town.found, "anna", "milk", "Milk", ("anna",))
        self.assert_refuses(errors.Exists, self.town.found, "anna", "tea", "Milk", ())
        self.assert_refuses(errors.BadBody, self.town.found, "anna", "tea", "Milk", ("anna", "bert"))
        self.assertEqual(self.town.found("bert", "tea", "Milk", ("anna",)), ("bert", "tea"))

    def test_errors_of_the_desk_when_writing(self):
        for thing in odd_things() + [("found", "Tea", ()), ("say", "")]:
            for name in ("anna", "bert"):
                self.assert_refuses(errors.BadBody, self.town.write, name, ROOM, thing)
            self.assert_refuses(errors.Unknown, self.town.write, "carl", ROOM, thing)
        self.assert_refuses(errors.Unknown, self.town.write, "carl", ROOM, ("seen",))
        self.assert_refuses(errors.NotKeeper, self.town.write, "bert", ROOM, ("add", "dora"))
        self.assert_refuses(errors.Exists, self.town.write, "anna", ROOM, ("add", "carl"))
        self.assert_refuses(errors.Unknown, self.town.write, "anna", ROOM, ("cut", "dora"))
        self.assert_refuses(errors.Unknown, self.town.write, "bert", ROOM, ("recall", ("anna", 2)))
        self.town.write("anna", ROOM, ("cut", "bert"))
        self.assertEqual(self.town.write("bert", ROOM, ("say", "I do not know of it")), ("bert", 1))
        fetch(self.town, "bert", "anna", ROOM)
        self.assert_refuses(errors.NotMember, self.town.write, "bert", ROOM, ("seen",))
        self.assert_refuses(errors.NotMember, self.town.write, "bert", ROOM, ("add", "anna"))

    def test_after_an_error_all_goes_on(self):
        self.assert_refuses(errors.BadBody, self.town.write, "anna", ROOM, None)
        self.assertEqual(self.town.write("anna", ROOM, ("seen",)), ("anna", 2))
        self.assert_refuses(errors.Unknown, self.town.ask, "anna", "zoe", ROOM)
        number = self.town.post.sent + 1
        self.assertEqual(self.town.ask("anna", "bert", ROOM), number)


class Together(unittest.TestCase):
    def busy_towns(self, many, steps, **options):
        """Give busy towns with their numbers, behind each of their steps."""
        for seed in range(many):
            busy = BusyTown(seed, people=tuple(NAMES[:2 + seed % 4]), many_rooms=1 + seed % 2, **options)
            for _ in range(steps):
                busy.step()
                yield seed, busy

    def test_histories_at_every_moment(self):
        longest = {}
        for seed, busy in self.busy_towns(24, 500, acts=0.1):
            for room in busy.rooms:
                before = longest.setdefault((seed, room), [])
                for name in have_room(busy.town, room):
                    now = history_values(busy.town, name, room)
                    self.assertTrue(one_begins_the_other(now, before), seed)
                    longest[(seed, room)] = before = max(now, before, key=len)
        self.assertGreater(sum([len(rows) for rows in longest.values()]), 200)

    def assert_in_order(self, letters):
        """Assert what point 0.3 says of the letters of a history."""
        places = {row.ref: place for place, row in enumerate(letters)}
        self.assertEqual(len(places), len(letters))
        numbers = {}
        for place, row in enumerate(letters):
            self.assertEqual(row.number, numbers.get(row.author, 0) + 1)
            numbers[row.author] = row.number
            for name, count in row.seen:
                for number in range(1, count + 1):
                    self.assertLessEqual(places.get((name, number), -1), place)

    def test_the_letters_of_histories_are_in_order(self):
        seen = 0
        for _, busy in self.busy_towns(16, 150, acts=0.2):
            if len(busy.deeds) % 10 == 0:
                for room in busy.rooms:
                    for name in have_room(busy.town, room):
                        desk = busy.town.desk(name)
                        both = refs(desk.history(room) + desk.tail(room))
                        self.assert_in_order(desk.history(room))
                        self.assertEqual(len(set(both)), len(both))
                        self.assertTrue(all([desk.ledger(room).roll.counts(ref) for ref in both]))
                        seen += len(desk.history(room))
        self.assertGreater(seen, 500)

    def test_histories_and_tails_are_those_of_the_ledgers(self):
        for _, busy in self.busy_towns(12, 150, acts=0.3):
            for room in busy.rooms:
                for name in have_room(busy.town, room):
                    desk = busy.town.desk(name)
                    ledger = desk.ledger(room)
                    self.assertEqual((values(desk.history(room)), values(desk.tail(room))),
                                     (values(settled(ledger)), values(tail(ledger))))

    def test_letters_that_desks_hold_are_read_back_from_archives(self):
        for _, busy in self.busy_towns(10, 120, acts=0.2):
            if len(busy.deeds) % 40:
                continue
            for room in busy.rooms:
                for name in have_room(busy.town, room):
                    letters = busy.town.desk(name).ledger(room).letters()
                    text = archive(letters)
                    self.assertEqual(values(read_archive(text)), values(letters))
                    whole, length = read_beginning(text[:-3] + "?")
                    self.assertEqual((values(whole), length), (values(letters[:-1]), len(archive(letters[:-1]))))
                    self.assertRaises(errors.BadMail, read_archive, text[:-1])

    def test_desks_from_cut_diaries(self):
        made = 0
        for _, busy in self.busy_towns(8, 150, acts=0.2):
            if len(busy.deeds) % 25:
                continue
            for name in busy.people:
                text = busy.town.kept(name)
                cut = busy.chance.randint(0, len(text))
                pairs, length = read_diary(text[:cut])
                desk = Desk(name, diary=text[:cut])
                self.assertEqual((desk.diary, desk.saved), (text[:length], length))
                for room in desk.rooms():
                    self.assertEqual(values(desk.ledger(room)), [row.value() for other, row in pairs if other == room])
                    self.assertEqual(desk.ledger(room).waiting(), [])
                    made += 1
                if busy.town.is_up(name) and cut >= busy.town.desk(name).saved:
                    for room in busy.town.desk(name).rooms():
                        held = busy.town.desk(name).ledger(room).held(name)
                        self.assertEqual(dict(desk.have(room)).get(name, 0), held)
        self.assertGreater(made, 50)

    def test_each_desk_is_as_one_made_from_its_diary(self):
        for _, busy in self.busy_towns(8, 120, acts=0.2):
            if len(busy.deeds) % 20 == 0:
                for name in busy.people:
                    if busy.town.is_up(name):
                        desk = busy.town.desk(name)
                        made = Desk(name, diary=desk.diary)
                        self.assertEqual(made.rooms(), desk.rooms())
                        for room in desk.rooms():
                            self.assertEqual((values(made.ledger(room)), values(made.history(room)), values(made.tail(room))),
                                             (values(desk.ledger(room)), values(desk.history(room)), values(desk.tail(room))))

    def test_the_same_deeds_lead_to_the_same_town(self):
        for seed in range(6):
            busy = BusyTown(seed, many_rooms=2)
            for _ in range(150):
                busy.step()
            self.assertEqual(town_state(town_of(busy.people, busy.deeds)), town_state(busy.town))

    def test_a_town_of_one(self):
        town = Town(["anna"])
        room = town.found("anna", "tea", "Tea", ())
        town.write("anna", room, ("say", "hello"))
        self.assertEqual(refs(town.desk("anna").history(room)), [("anna", 1), ("anna", 2)])
        self.assertEqual(town.deliver(town.ask("anna", "anna", room)), [])


if __name__ == "__main__":
    unittest.main()
