"""Tests of lettersonce.meeting: points 9.6 to 9.8, and point 0.3 for towns that meet."""

import time
import unittest

from lettersonce.meeting import meet
from lettersonce.town import Town

from desks import desk_state
from rooms import NAMES, counting, refs, roll_state, values
from towns import BusyTown, fetch, have_room, history_values, one_begins_the_other, plain_meet, town_of, town_state

ROOM = ("anna", "tea")


class SpyTown(Town):
    """A town that keeps what deeds are done in it."""

    def __init__(self, names):
        super().__init__(names)
        self.deeds = []


def spied(word):
    def deed(self, *arguments):
        self.deeds.append((word, *arguments))
        return getattr(Town, word)(self, *arguments)
    return deed


for each in ("found", "write", "save", "ask", "deliver", "lose", "stop", "start"):
    setattr(SpyTown, each, spied(each))


def town_with(members, people=None):
    """Return a town in which anna has founded a room with these members."""
    town = SpyTown(people or ["anna", *members])
    town.found("anna", "tea", "Tea", tuple(sorted(members)))
    town.deeds.clear()
    return town


def history_of(town, name):
    return town.desk(name).history(ROOM)


class Meetings(unittest.TestCase):
    def assert_met(self, town, room, counted=()):
        """Assert what holds behind a meeting for each desk: no parcels, all up, one history with these letters in it."""
        self.assertEqual(town.post.numbers(), [])
        self.assertTrue(all([town.is_up(name) for name in town.people]))
        having = have_room(town, room)
        histories = [history_values(town, name, room) for name in having
                     if town.desk(name).ledger(room).roll.is_member(name)]
        self.assertTrue(all([history == histories[0] for history in histories]))
        for value in counted:
            self.assertEqual([row.count(value) for row in histories], [1] * len(histories))
        return histories[0]


class StepByStep(Meetings):
    def test_two_people(self):
        town = town_with(["bert"])
        self.assertEqual(meet(town, ROOM), 10)
        turns = [deed for deed in town.deeds if deed[0] in ("ask", "write")]
        self.assertEqual(turns, [
            ("ask", "bert", "anna", ROOM),
            ("ask", "anna", "bert", ROOM), ("ask", "bert", "anna", ROOM),
            ("write", "anna", ROOM, ("seen",)), ("write", "bert", ROOM, ("seen",)),
            ("ask", "anna", "bert", ROOM), ("ask", "bert", "anna", ROOM),
            ("ask", "anna", "bert", ROOM), ("ask", "bert", "anna", ROOM)])
        posts = [deed for deed in town.deeds if deed[0] in ("deliver", "lose")]
        self.assertEqual(posts, [(word, number) for number in range(1, 11) for word in ("deliver", "lose")])
        self.assertEqual(refs(town.desk("bert").ledger(ROOM)), [("anna", 1), ("bert", 1), ("anna", 2)])
        self.assertEqual(refs(town.desk("anna").ledger(ROOM)), [("anna", 1), ("anna", 2), ("bert", 1)])
        self.assertEqual(refs(town.desk("anna").history(ROOM)), [("anna", 1)])
        self.assertEqual(refs(town.desk("anna").tail(ROOM)), [("anna", 2), ("bert", 1)])

    def test_the_pairs_have_their_turns_in_the_order_of_the_people(self):
        town = town_with(["bert", "carl"], people=["carl", "anna", "bert"])
        fetch(town, "carl", "anna", ROOM)
        fetch(town, "bert", "anna", ROOM)
        town.deeds.clear()
        # Carl gets a letter from each of the others, who then get both that they lack from him.
        self.assertEqual(meet(town, ROOM), 6 + (6 + 4) + 6)
        pairs = [("carl", "anna"), ("carl", "bert"), ("anna", "carl"), ("anna", "bert"), ("bert", "carl"), ("bert", "anna")]
        turns = [deed[1:3] for deed in town.deeds if deed[0] in ("ask", "write")]
        writes = [(name, ROOM) for name in ("carl", "anna", "bert")]
        self.assertEqual(turns, pairs + writes + pairs * 2)

    def test_the_first_of_the_pair_asks_and_nobody_gives_unasked(self):
        town = town_with(["bert", "carl"])
        meet(town, ROOM)
        kinds = {}
        for deed in town.deeds:
            if deed[0] == "ask":
                kinds[deed[1:3]] = kinds.get(deed[1:3], 0) + 1
        self.assertEqual(kinds, {("anna", "bert"): 3, ("anna", "carl"): 3, ("bert", "anna"): 4, ("bert", "carl"): 3,
                                 ("carl", "anna"): 4, ("carl", "bert"): 4})

    def test_each_parcel_is_delivered_and_then_lost_ahead_of_the_next_turn(self):
        town = town_with(["bert", "carl"])
        town.write("anna", ROOM, ("say", "hello"))
        town.deeds.clear()
        many = meet(town, ROOM)
        self.assertEqual(many, len([deed for deed in town.deeds if deed[0] == "deliver"]))
        self.assertEqual(many, town.post.sent)
        under_way = []
        for place, deed in enumerate(town.deeds):
            if deed[0] in ("ask", "write"):
                self.assertEqual(under_way, [])
            if deed[0] == "ask":
                under_way.append(len([other for other in town.deeds[:place] if other[0] == "deliver"]) + 1)
            if deed[0] == "deliver":
                self.assertEqual(town.deeds[place + 1], ("lose", deed[1]))
            if deed[0] == "lose":
                under_way = [number for number in under_way if number != deed[1]]

    def test_desks_that_are_down_are_started(self):
        town = town_with(["bert", "carl"])
        fetch(town, "bert", "anna", ROOM)
        town.write("bert", ROOM, ("say", "hello"))
        for name in town.people:
            town.stop(name, 0)
        town.deeds.clear()
        meet(town, ROOM)
        self.assertTrue(all([town.is_up(name) for name in town.people]))
        self.assertEqual([deed for deed in town.deeds if deed[0] == "stop"], [])
        self.assertIn(("bert", 1), refs(history_of(town, "carl")))

    def test_what_a_stopped_desk_had_left_is_not_more_than_it_was(self):
        town = town_with(["bert"])
        fetch(town, "bert", "anna", ROOM)
        town.stop("bert", 7)
        self.assertEqual(meet(town, ROOM), 10)
        other = town_with(["bert"])
        fetch(other, "bert", "anna", ROOM)
        self.assertEqual(meet(other, ROOM), 2 + 4 + 2)

    def test_all_parcels_are_lost_and_not_delivered(self):
        town = town_with(["bert"], people=["anna", "bert", "carl"])
        asked = town.ask("carl", "anna", ROOM)
        given = town.deliver(asked)
        self.assertEqual(len(given), 1)
        town.ask("carl", "bert", ("zoe", "x"))
        town.deeds.clear()
        self.assertEqual(meet(town, ROOM), 10)
        self.assertEqual(town.deeds[:town.deeds.index(("ask", "bert", "anna", ROOM))][-3:], [("lose", number) for number in (1, 2, 3)])
        self.assertEqual((town.post.numbers(), town.post.sent), ([], 13))
        self.assertEqual(town.desk("carl").rooms(), [])

    def test_the_letters_that_are_written_between(self):
        town = town_with(["bert", "carl"], people=["anna", "carl", "bert", "dora"])
        town.write("anna", ROOM, ("say", "hello"))
        town.deeds.clear()
        meet(town, ROOM)
        self.assertEqual([deed for deed in town.deeds if deed[0] == "write"],
                         [("write", name, ROOM, ("seen",)) for name in ("anna", "carl", "bert")])
        self.assertEqual([value for value in values(town.desk("carl").ledger(ROOM)) if value[4] == ("seen",)], [
            ("carl", 1, 3, (("anna", 2), ("carl", 1)), ("seen",)),
            ("anna", 3, 3, (("anna", 3),), ("seen",)),
            ("bert", 1, 3, (("anna", 2), ("bert", 1)), ("seen",))])
        self.assertEqual(refs(history_of(town, "bert")), [("anna", 1), ("anna", 2)])
        self.assertEqual(refs(town.desk("bert").tail(ROOM)), [("anna", 3), ("bert", 1), ("carl", 1)])

    def test_a_meeting_right_behind_a_meeting(self):
        town = town_with(["bert"])
        meet(town, ROOM)
        self.assertEqual(meet(town, ROOM), 2 + 4 + 2)
        for name in ("anna", "bert"):
            self.assertEqual(refs(history_of(town, name)), [("anna", 1), ("anna", 2), ("bert", 1)])

    def test_letters_that_come_by_way_of_others(self):
        """Dora, who has the first turns, is added by bert, who came by anna; several rounds pass."""
        people = ["dora", "carl", "bert", "anna"]
        deeds = [("found", "anna", "tea", "Tea", ("bert",)), ("write", "anna", ROOM, ("add", "carl")),
                 ("write", "anna", ROOM, ("hand", "bert")), ("ask", "bert", "anna", ROOM), ("deliver", 1), ("deliver", 2),
                 ("write", "bert", ROOM, ("add", "dora"))]
        town, other = town_of(people, deeds), town_of(people, deeds)
        self.assertEqual(meet(town, ROOM), plain_meet(other, ROOM))
        self.assertEqual(town_state(town), town_state(other))
        for name in people:
            self.assertEqual(refs(history_of(town, name)), [("anna", 1), ("anna", 2), ("anna", 3), ("bert", 1)])

    def test_a_town_of_one(self):
        town = town_with([])
        town.write("anna", ROOM, ("say", "hello"))
        self.assertEqual(meet(town, ROOM), 0)
        self.assertEqual(refs(history_of(town, "anna")), [("anna", 1), ("anna", 2), ("anna", 3)])

    def test_the_arguments_by_name(self):
        self.assertEqual(meet(room=ROOM, town=town_with(["bert"])), 10)


class Odd(Meetings):
    def test_a_room_that_nobody_has(self):
        town = town_with(["bert"])
        town.write("anna", ROOM, ("say", "hello"))
        for room in (("anna", "milk"), ("bert", "tea"), ("zoe", "x")):
            town.ask("bert", "anna", ROOM)
            town.stop("bert", 0)
            before = [desk_state(town.desk("anna")), town.kept("bert"), town.post.sent]
            self.assertEqual(meet(town, room), 0)
            self.assertEqual([desk_state(town.desk("anna")), town.kept("bert"), town.post.sent], before)
            self.assertEqual((town.is_up("bert"), town.post.numbers()), (True, []))

    def test_a_second_room_stays_as_it_was(self):
        town = town_with(["bert", "carl"])
        other = town.found("bert", "milk", "Milk", ("anna", "carl"))
        town.write("bert", other, ("say", "one"))
        fetch(town, "anna", "bert", other)
        town.write("anna", other, ("say", "two"))
        before = {name: (town.desk(name).have(other), values(town.desk(name).ledger(other)), history_values(town, name, other))
                  for name in ("anna", "bert")}
        meet(town, ROOM)
        after = {name: (town.desk(name).have(other), values(town.desk(name).ledger(other)), history_values(town, name, other))
                 for name in ("anna", "bert")}
        self.assertEqual(after, before)
        self.assertEqual(town.desk("carl").rooms(), [ROOM])
        meet(town, other)
        self.assertEqual(refs(town.desk("carl").history(other)), [("bert", 1), ("bert", 2), ("anna", 1)])

    def test_members_without_a_desk_in_the_town(self):
        town = town_with(["bert", "zoe"], people=["anna", "bert"])
        town.write("anna", ROOM, ("say", "hello"))
        self.assertEqual(meet(town, ROOM), 10)
        for name in ("anna", "bert"):
            self.assertEqual(refs(history_of(town, name)), [("anna", 1)])
            self.assertEqual(refs(town.desk(name).tail(ROOM)), [("anna", 2), ("anna", 3), ("bert", 1)])
        town.write("anna", ROOM, ("cut", "zoe"))
        meet(town, ROOM)
        self.assertEqual(refs(history_of(town, "bert")), [("anna", 1), ("anna", 2), ("anna", 3), ("bert", 1), ("anna", 4)])

    def test_people_who_are_no_members(self):
        town = town_with(["bert"], people=["anna", "bert", "carl", "dora"])
        meet(town, ROOM)
        self.assertEqual((town.desk("carl").rooms(), town.kept("dora")), ([], ""))
        fetch(town, "carl", "anna", ROOM)
        town.write("bert", ROOM, ("say", "hello"))
        had = town.desk("carl").have(ROOM)
        town.deeds.clear()
        meet(town, ROOM)
        self.assertEqual(town.desk("carl").have(ROOM), had)
        self.assertNotIn(("write", "carl", ROOM, ("seen",)), town.deeds)
        self.assertEqual([deed for deed in town.deeds if deed[0] == "ask" and deed[1] == "carl"], [])
        self.assertIn(("ask", "anna", "carl", ROOM), town.deeds)
        self.assertEqual([deed for deed in town.deeds if "dora" in deed and deed[0] != "start"], [])

    def test_somebody_who_was_cut_and_does_not_know_of_it(self):
        town = town_with(["bert", "carl"])
        meet(town, ROOM)
        town.write("carl", ROOM, ("say", "one"))
        fetch(town, "anna", "carl", ROOM)
        town.write("carl", ROOM, ("say", "nobody will hear this"))
        town.write("anna", ROOM, ("cut", "carl"))
        had = town.desk("carl").have(ROOM)
        town.deeds.clear()
        meet(town, ROOM)
        self.assertIn(("write", "carl", ROOM, ("seen",)), town.deeds)
        self.assertEqual(refs(history_of(town, "anna")), refs(history_of(town, "bert")))
        self.assertIn(("carl", 2), refs(history_of(town, "bert")))
        for number in (3, 4):
            self.assertNotIn(("carl", number), refs(history_of(town, "bert") + town.desk("bert").tail(ROOM)))
            self.assertNotIn(("carl", number), refs(history_of(town, "anna") + town.desk("anna").tail(ROOM)))
        self.assertTrue(one_begins_the_other(history_values(town, "carl", ROOM), history_values(town, "anna", ROOM)))
        self.assertEqual(dict(town.desk("carl").have(ROOM))["anna"], dict(had)["anna"])
        self.assertEqual(dict(town.desk("carl").have(ROOM))["carl"], 4)

    def test_somebody_who_knows_of_being_cut_writes_nothing(self):
        town = town_with(["bert", "carl"])
        meet(town, ROOM)
        town.write("anna", ROOM, ("cut", "carl"))
        fetch(town, "carl", "anna", ROOM)
        town.deeds.clear()
        meet(town, ROOM)
        self.assertEqual([deed[1] for deed in town.deeds if deed[0] == "write"], ["anna", "bert"])
        self.assertEqual([deed for deed in town.deeds if deed[0] == "ask" and deed[1] == "carl"], [])


class Late(Meetings):
    def test_late_letters_stand_behind_all_that_was_settled(self):
        """Carl cannot reach anybody for long; what he writes then comes behind."""
        town = town_with(["bert", "carl"])
        meet(town, ROOM)
        for number in range(5):
            town.write("carl", ROOM, ("say", f"alone {number}"))
            town.write("anna", ROOM, ("say", f"anna {number}"))
            fetch(town, "bert", "anna", ROOM)
            town.write("bert", ROOM, ("say", f"bert {number}"))
            fetch(town, "anna", "bert", ROOM)
        settled_before = history_values(town, "anna", ROOM)
        self.assertEqual(settled_before, history_values(town, "bert", ROOM))
        late = [row.value() for row in town.desk("carl").ledger(ROOM) if row.author == "carl" and row.body[0] == "say"]
        meet(town, ROOM)
        history = self.assert_met(town, ROOM, late)
        self.assertEqual(history[:len(settled_before)], settled_before)
        self.assertEqual([value for value in history[len(settled_before):] if value[0] == "carl" and value[4][0] == "say"], late)

    def test_others_go_on_without_somebody_who_was_cut(self):
        town = town_with(["bert", "carl"])
        meet(town, ROOM)
        town.write("carl", ROOM, ("say", "alone"))
        town.write("anna", ROOM, ("cut", "carl"))
        for number in range(3):
            for one, other in (("anna", "bert"), ("bert", "anna")):
                fetch(town, one, other, ROOM)
                town.write(one, ROOM, ("say", f"{one} {number}"))
        before = history_values(town, "anna", ROOM)
        self.assertGreater(len(before), 6)
        fetch(town, "anna", "carl", ROOM)
        fetch(town, "bert", "carl", ROOM)
        fetch(town, "carl", "anna", ROOM)
        self.assertEqual(history_values(town, "anna", ROOM), before)
        self.assertTrue(one_begins_the_other(history_values(town, "carl", ROOM), before))
        self.assertNotIn(("carl", 2), refs(town.desk("anna").history(ROOM) + town.desk("anna").tail(ROOM)))


class Together(Meetings):
    def busy(self, seed, steps, **options):
        busy = BusyTown(seed, people=tuple(NAMES[:1 + seed % 6]), many_rooms=1 + (seed % 6 > 0) * (seed // 6 % 2), **options)
        for _ in range(steps):
            busy.step()
        return busy

    def test_as_the_plain_model(self):
        for seed in range(36):
            busy = self.busy(seed, 60 + 3 * seed, acts=[0.1, 0.4][seed % 2])
            other = town_of(busy.people, busy.deeds)
            for room in busy.rooms + [("zoe", "x")]:
                self.assertEqual(meet(busy.town, room), plain_meet(other, room), seed)
                self.assertEqual(town_state(busy.town), town_state(other), seed)

    def test_behind_a_meeting_all_members_have_one_history(self):
        met = {"letters": 0, "void": 0, "handed": 0, "cut": 0}
        for seed in range(60):
            busy = self.busy(seed, 40 + 4 * seed, acts=[0.05, 0.2, 0.5][seed % 3])
            for room in busy.rooms:
                longest = max([history_values(busy.town, name, room) for name in have_room(busy.town, room)] or [[]], key=len)
                written = busy.all_letters(room)
                expected = counting(written)
                members = written.roll.members()
                meet(busy.town, room)
                histories = {name: history_values(busy.town, name, room) for name in have_room(busy.town, room)}
                self.assertLessEqual(set(members), set(histories))
                one = histories[members[0]]
                self.assertEqual(one[:len(longest)], longest)
                for name in members:
                    self.assertEqual(histories[name], one, seed)
                    desk = busy.town.desk(name)
                    self.assertEqual(roll_state(desk.ledger(room).roll), roll_state(written.roll), seed)
                for name in histories:
                    self.assertTrue(one_begins_the_other(histories[name], one), seed)
                self.assertEqual(sorted([value for value in one if value in expected]), expected, seed)
                self.assertEqual([value for value in one if value not in expected and value[4] != ("seen",)], [])
                met["letters"] += len(expected)
                met["void"] += len(busy.letters[room]) - len(expected)
                met["handed"] += written.roll.keeper != room[0]
                met["cut"] += len(written.roll.cuts())
        self.assertGreater(min(met.values()), 10, met)

    def test_meetings_between_busy_times(self):
        for seed in range(12):
            busy = self.busy(seed, 0, acts=0.15)
            longest = {room: [] for room in busy.rooms}
            for _ in range(5):
                for _ in range(60):
                    busy.step()
                    for room in busy.rooms:
                        for name in have_room(busy.town, room):
                            now = history_values(busy.town, name, room)
                            self.assertTrue(one_begins_the_other(now, longest[room]), seed)
                            longest[room] = max(now, longest[room], key=len)
                for room in busy.rooms:
                    self.note_meeting(busy, room)

    def note_meeting(self, busy, room):
        """Let a busy town meet, and give it the letters that are written by this."""
        expected, members = counting(busy.all_letters(room)), busy.all_letters(room).roll.members()
        meet(busy.town, room)
        known = set(refs(busy.letters[room]))
        for name in have_room(busy.town, room):
            busy.letters[room] += [row for row in busy.town.desk(name).ledger(room) if row.author == name and row.ref not in known]
        for name in members:
            self.assertEqual(history_values(busy.town, name, room), history_values(busy.town, members[0], room))
            self.assertLessEqual(set(expected), set(history_values(busy.town, name, room)))

    def test_a_town_of_eight_with_hundreds_of_letters(self):
        busy = BusyTown(3, people=tuple(NAMES), acts=0.0, stops=0.0)
        town = Town(NAMES)
        room = town.found("anna", "tea", "Tea", tuple(NAMES[1:]))
        meet(town, room)
        for number in range(600):
            town.write(busy.chance.choice(NAMES), room, ("say", f"letter {number}\n" * 10))
            if number % 10 == 0:
                fetch(town, *busy.chance.sample(NAMES, 2), room)
        for name in NAMES[::2]:
            town.stop(name, 1000)
        started = time.perf_counter()
        meet(town, room)
        self.assertLess(time.perf_counter() - started, 5)
        history = self.assert_met(town, room)
        self.assertEqual(len([value for value in history if value[4][0] == "say"]), 600)


if __name__ == "__main__":
    unittest.main()
