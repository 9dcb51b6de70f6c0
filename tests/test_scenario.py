"""Tests of lettersonce.scenario: point 9.5."""

import copy
import unittest

from lettersonce import errors
from lettersonce.scenario import perform, run
from lettersonce.town import Town

from rooms import NAMES, values
from samples import Touchy, TouchyText, odd_things
from towns import BusyTown, do, fetch, town_of, town_state

ROOM = ("anna", "tea")
WORDS = {"found": 5, "write": 4, "save": 2, "ask": 4, "deliver": 2, "lose": 2, "stop": 3, "start": 2}
PARTS = ["anna", ROOM, ("seen",), 0, 1, "tea", (), None]


class Scenarios(unittest.TestCase):
    def setUp(self):
        """A town of three, of whom anna and bert have a room, and one parcel in the post."""
        self.town = Town(["anna", "bert", "carl"])
        self.town.found("anna", "tea", "Tea", ("bert", "carl"))
        fetch(self.town, "bert", "anna", ROOM)
        self.asked = self.town.ask("carl", "anna", ROOM)

    def assert_done(self, deed, result):
        """Assert that a deed is done with this result, and does what the method does."""
        other = town_of(self.town.people, [])
        other.__dict__ = copy.deepcopy(self.town.__dict__)
        outcome = perform(self.town, deed)
        self.assertEqual((outcome, type(outcome)), (("done", result), tuple))
        self.assertIs(type(outcome[1]), type(result))
        self.assertEqual(do(other, deed), result)
        self.assertEqual(town_state(self.town), town_state(other))

    def assert_refused(self, deed, name):
        """Assert that a deed is refused with this name, and that nothing has changed."""
        before = town_state(self.town)
        outcome = perform(self.town, deed)
        self.assertEqual((outcome, type(outcome), type(outcome[1])), (("refused", name), tuple, str))
        self.assertEqual(town_state(self.town), before)


class Performing(Scenarios):
    def test_each_deed_that_is_possible(self):
        self.assert_done(("found", "bert", "milk", "Milk", ("anna", "zoe")), ("bert", "milk"))
        self.assert_done(("found", "carl", "tea", "", ()), ("carl", "tea"))
        self.assert_done(("write", "anna", ROOM, ("say", "hello")), ("anna", 2))
        self.assert_done(("write", "bert", ROOM, ("mark", ("anna", 1), "star")), ("bert", 1))
        self.assert_done(("ask", "anna", "bert", ROOM), self.asked + 1)
        self.assert_done(("ask", "bert", "bert", ("zoe", "x")), self.asked + 2)
        self.assert_done(("deliver", self.asked), [self.asked + 3])
        self.assert_done(("deliver", self.asked + 3), [])
        self.assert_done(("deliver", self.asked + 2), [])
        self.assert_done(("save", "carl"), None)
        self.assert_done(("lose", self.asked), None)
        self.assert_done(("write", "carl", ROOM, ("seen",)), ("carl", 1))
        self.assert_done(("stop", "carl", 0), None)
        self.assert_done(("stop", "carl", 5), None)
        self.assert_done(("start", "carl"), None)
        self.assert_done(("start", "carl"), None)

    def test_to_save_and_to_stop_do_what_they_say(self):
        self.assertEqual(self.town.desk("bert").saved, 0)
        self.assert_done(("save", "bert"), None)
        kept = self.town.kept("bert")
        self.assertEqual(self.town.desk("bert").saved, len(kept))
        self.assert_done(("deliver", self.asked), [self.asked + 1])
        self.assert_done(("deliver", self.asked + 1), [])
        whole = self.town.kept("carl")
        self.assert_done(("stop", "carl", 17), None)
        self.assertEqual((self.town.is_up("carl"), self.town.kept("carl")), (False, whole[:17]))

    def test_strangers_and_numbers_that_are_not_there(self):
        for deed in (("found", "zoe", "milk", "Milk", ()), ("write", "zoe", ROOM, ("seen",)), ("save", "zoe"), ("ask", "zoe", "anna", ROOM),
                     ("ask", "anna", "zoe", ROOM), ("deliver", 0), ("deliver", self.asked + 1), ("deliver", -1), ("lose", 10 ** 20),
                     ("lose", 1), ("stop", "zoe", 0), ("start", "zoe")):
            self.assert_refused(deed, "Unknown")

    def test_desks_that_are_down(self):
        self.town.stop("anna", 0)
        for deed in (("found", "anna", "milk", "Milk", ()), ("write", "anna", ROOM, ("seen",)), ("save", "anna"),
                     ("ask", "anna", "bert", ROOM), ("deliver", self.asked), ("write", "anna", ROOM, None),
                     ("found", "anna", Touchy(), 1, 2)):
            self.assert_refused(deed, "Down")
        self.assert_refused(("ask", "anna", "zoe", ROOM), "Unknown")
        self.assert_done(("ask", "bert", "anna", ROOM), self.asked + 1)
        self.assert_done(("stop", "anna", 1), None)
        self.assert_done(("lose", self.asked), None)

    def test_errors_of_desks(self):
        self.assert_refused(("found", "anna", "tea", "Tea", ()), "Exists")
        self.assert_refused(("found", "anna", "milk", "Milk", ("anna",)), "BadBody")
        self.assert_refused(("write", "anna", ROOM, ("say", "")), "BadBody")
        self.assert_refused(("write", "anna", ROOM, ("found", "Tea", ())), "BadBody")
        self.assert_refused(("write", "bert", ROOM, ("add", "zoe")), "NotKeeper")
        self.assert_refused(("write", "anna", ROOM, ("add", "bert")), "Exists")
        self.assert_refused(("write", "anna", ROOM, ("hand", "zoe")), "Unknown")
        self.assert_refused(("write", "anna", ROOM, ("recall", ("bert", 1))), "Unknown")
        self.assert_refused(("write", "carl", ROOM, ("seen",)), "Unknown")
        self.town.write("anna", ROOM, ("cut", "bert"))
        fetch(self.town, "bert", "anna", ROOM)
        self.assert_refused(("write", "bert", ROOM, ("seen",)), "NotMember")
        for thing in odd_things():
            self.assert_refused(("found", "anna", thing, "Milk", ()), "BadBody")
            self.assert_refused(("found", "anna", "milk", thing, ()), "BadBody")
            self.assert_refused(("write", "anna", ROOM, thing), "BadBody")

    def test_the_empty_tuple(self):
        self.assert_refused((), "BadValue")

    def test_first_items_of_any_kind(self):
        things = odd_things() + ["", "Found", "fly", "write ", " save", "founds", "is_up", "desk", "kept", "post", "people", "meet",
                                 "__init__", "_up_desk", b"start", ("start",), ["start"], {"start": 2}, TouchyText("start"), "a" * 1000]
        for thing in things:
            for length in range(6):
                self.assert_refused((thing, *PARTS[:length]), "BadValue")
            self.assert_refused((thing, "anna"), "BadValue")
            self.assert_refused((thing, "anna", "tea", "Tea", ()), "BadValue")
            self.assert_refused((thing, thing), "BadValue")

    def test_tuples_that_are_too_short_or_too_long(self):
        for word, length in WORDS.items():
            for many in range(9):
                if many + 1 != length:
                    self.assert_refused((word, *PARTS[:many]), "BadValue")
                    self.assert_refused((word, *["anna"] * many), "BadValue")
                    self.assert_refused((word, *["zoe"] * many), "BadValue")
                    self.assert_refused((word, *[1] * many), "BadValue")
                    self.assert_refused((word, *[Touchy()] * many), "BadValue")

    def test_each_error_by_the_name_of_its_class(self):
        class Refusing:
            """A town whose desk raises what it is told to raise."""

            def save(self, name):
                raise getattr(errors, name)("a reason")

        for name in ("BadBody", "BadLetter", "BadMail", "BadValue", "Contradiction", "Down", "Exists", "NotKeeper", "NotMember",
                     "Unknown", "RoomError"):
            self.assertEqual(perform(Refusing(), ("save", name)), ("refused", name))

    def test_the_arguments_by_name(self):
        self.assertEqual(perform(deed=("save", "anna"), town=self.town), ("done", None))
        self.assertEqual(run(deeds=[("save", "anna")], town=self.town), [("done", None)])


class Running(Scenarios):
    DEEDS = [("write", "anna", ROOM, ("say", "hello")), ("fly",), ("ask", "bert", "anna", ROOM), ("deliver", 4), (), ("deliver", 5),
             ("stop", "bert", 3), ("save", "bert"), ("deliver", 3), ("start", "bert"), ("write", "bert", ROOM, ("seen",)),
             (["write"], "anna"), ("deliver", 99), ("lose", 3)]

    def test_run(self):
        deeds = list(self.DEEDS)
        outcomes = run(self.town, deeds)
        self.assertIs(type(outcomes), list)
        self.assertEqual(outcomes, [
            ("done", ("anna", 2)), ("refused", "BadValue"), ("done", 4), ("done", [5]), ("refused", "BadValue"), ("done", []),
            ("done", None), ("refused", "Down"), ("done", [6]), ("done", None), ("refused", "Unknown"), ("refused", "BadValue"),
            ("refused", "Unknown"), ("done", None)])

    def test_the_list_stays(self):
        deeds = list(self.DEEDS)
        run(self.town, deeds)
        self.assertEqual(deeds, self.DEEDS)
        members = ["zoe"]
        deeds = [("found", "carl", "milk", "Milk", members), ("write", "anna", ROOM, ["seen"])]
        self.assertEqual(run(self.town, deeds), [("refused", "BadBody")] * 2)
        self.assertEqual((deeds[0][4], deeds[1][3]), (["zoe"], ["seen"]))

    def test_no_deeds(self):
        before = town_state(self.town)
        outcomes = run(self.town, [])
        self.assertEqual((outcomes, type(outcomes)), ([], list))
        self.assertEqual(town_state(self.town), before)

    def test_results_that_are_lists_are_new(self):
        outcomes = run(self.town, [("deliver", self.asked)])
        before = town_state(self.town)
        outcomes[0][1].clear()
        outcomes.clear()
        self.assertEqual(town_state(self.town), before)

    def test_a_town_that_did_a_scenario_is_as_one_whose_methods_were_called(self):
        refused = 0
        for seed in range(10):
            busy = BusyTown(seed, people=tuple(NAMES[:2 + seed % 5]), many_rooms=2, acts=0.3)
            for _ in range(150):
                busy.step()
            deeds = [deed for place, deed in enumerate(busy.deeds) if place % 11]
            one, other = Town(busy.people), Town(busy.people)
            outcomes = run(one, deeds)
            self.assertEqual(len(outcomes), len(deeds))
            for deed, outcome in zip(deeds, outcomes):
                try:
                    expected = ("done", do(other, deed))
                except errors.RoomError as error:
                    expected = ("refused", type(error).__name__)
                    refused += 1
                self.assertEqual(outcome, expected)
            self.assertEqual(town_state(one), town_state(other))
            self.assertEqual([perform(Town(busy.people), deed) for deed in deeds[:1]], outcomes[:1])
        self.assertGreater(refused, 50)

    def test_the_letters_are_those_of_the_deeds(self):
        run(self.town, [("write", "anna", ROOM, ("say", text)) for text in ("one", "two", "three")])
        self.assertEqual([value[4] for value in values(self.town.desk("anna").ledger(ROOM))[1:]],
                         [("say", "one"), ("say", "two"), ("say", "three")])


if __name__ == "__main__":
    unittest.main()
