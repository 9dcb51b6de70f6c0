"""Tests of lettersonce.roll: points 4.1 to 4.5."""

import copy
import unittest

from lettersonce.errors import RoomError, Unknown
from lettersonce.letters import Letter
from lettersonce.roll import Roll, roll_of

from rooms import NAMES, PlainRoll, founding, letter, odd_rows, roll_state, values
from samples import BODIES, GREATEST


def rows_of(*letters):
    """Return the rows of letters that stand in the order of their numbers."""
    rows = {}
    for row in letters:
        rows.setdefault(row.author, []).append(row)
    return rows


def read(*letters):
    """Return the roll of a room with these letters, the founding letter first."""
    return roll_of(letters[0].author, rows_of(*letters))


def hands(names):
    """Return the letters of a room whose keeping goes from each of the names to the next one; all are honest."""
    rows = [founding(*sorted(set(names[1:]) - {names[0]}), author=names[0])]
    counts = {names[0]: 1}
    for stamp, (keeper, other) in enumerate(zip(names, names[1:]), start=2):
        counts[keeper] = counts.get(keeper, 0) + 1
        rows.append(letter(keeper, counts[keeper], stamp, ("hand", other), **counts))
    return rows


class Rolls(unittest.TestCase):
    def assert_people(self, roll, keeper, members, cuts):
        """Assert that these are the people of the roll, by all that it tells."""
        self.assertIs(type(roll), Roll)
        self.assertEqual((roll.keeper, roll.members(), list(roll.cuts().items())), (keeper, members, list(cuts.items())))
        self.assertEqual((type(roll.members()), type(roll.cuts())), (list, dict))
        for name in NAMES + ["zoe"]:
            known = name in members or name in cuts
            self.assertIs(roll.is_member(name), name in members)
            self.assertIs(roll.is_known(name), known)
            for number in (1, 2, 3, 4, 5, 6, 7, GREATEST):
                self.assertIs(roll.counts((name, number)), name in members or number <= cuts.get(name, 0))
            if known:
                self.assertEqual(roll.limit(name), cuts.get(name))
            else:
                self.assert_unknown(roll, name)
        self.assertTrue(roll.is_member(roll.keeper))

    def assert_unknown(self, roll, name):
        for ask in (roll.came_by, roll.limit):
            with self.assertRaises(Unknown) as caught:
                ask(name)
            self.assertIs(type(caught.exception), Unknown)
            self.assertIsInstance(caught.exception, RoomError)

    def assert_came(self, roll, letters):
        for name, row in letters.items():
            self.assertIs(type(roll.came_by(name)), Letter)
            self.assertEqual(roll.came_by(name).value(), row.value())


class Founding(Rolls):
    def test_without_members(self):
        first = founding()
        roll = read(first)
        self.assert_people(roll, "anna", ["anna"], {})
        self.assertEqual(roll.founder, "anna")
        self.assert_came(roll, {"anna": first})

    def test_with_members(self):
        first = founding("anna", "bert", "emil", author="carl")
        roll = read(first)
        self.assert_people(roll, "carl", ["carl", "anna", "bert", "emil"], {})
        self.assertEqual(roll.founder, "carl")
        self.assert_came(roll, {name: first for name in ("carl", "anna", "bert", "emil")})

    def test_with_as_many_members_as_there_may_be(self):
        names = [f"p{number}" for number in range(10, 25)]
        self.assert_people(read(founding(*names)), "anna", ["anna"] + names, {})

    def test_letters_that_are_no_acts_do_nothing(self):
        first = founding("bert", "carl")
        bodies = [body for kind, body in BODIES.items() if kind not in ("found", "add", "cut", "hand")]
        rows = [letter("anna", number, number, body) for number, body in enumerate(bodies, start=2)]
        self.assert_people(read(first, *rows), "anna", ["anna", "bert", "carl"], {})

    def test_a_row_without_letters(self):
        rows = {"bert": [], "anna": [founding("bert")], "carl": []}
        self.assert_people(roll_of("anna", rows), "anna", ["anna", "bert"], {})


class Acts(Rolls):
    def test_add(self):
        first = founding("dora")
        second = letter("anna", 2, 2, ("add", "carl"))
        third = letter("anna", 3, 3, ("add", "bert"))
        roll = read(first, second, third)
        self.assert_people(roll, "anna", ["anna", "dora", "carl", "bert"], {})
        self.assert_came(roll, {"anna": first, "dora": first, "carl": second, "bert": third})

    def test_add_of_people_who_are_known_does_nothing(self):
        first = founding("bert", "carl")
        acts = [
            letter("anna", 2, 2, ("add", "dora")),
            letter("anna", 3, 3, ("cut", "carl"), carl=2),
            letter("anna", 4, 4, ("add", "anna")),
            letter("anna", 5, 5, ("add", "bert")),
            letter("anna", 6, 6, ("add", "carl"), carl=3),
            letter("anna", 7, 7, ("add", "dora")),
        ]
        roll = read(first, *acts)
        self.assert_people(roll, "anna", ["anna", "bert", "dora"], {"carl": 2})
        self.assert_came(roll, {"anna": first, "bert": first, "carl": first, "dora": acts[0]})

    def test_cut_of_members(self):
        first = founding("bert", "carl", "dora")
        second = letter("anna", 2, 2, ("add", "emil"))
        roll = read(first, second, letter("anna", 3, 9, ("cut", "carl"), bert=1, carl=4),
                    letter("anna", 4, 10, ("cut", "emil"), carl=5, emil=1),
                    letter("anna", 5, 11, ("cut", "bert"), carl=6, emil=2))
        self.assert_people(roll, "anna", ["anna", "dora"], {"carl": 4, "emil": 1, "bert": 0})
        self.assert_came(roll, {"carl": first, "emil": second, "bert": first})

    def test_cut_of_others_does_nothing(self):
        acts = [letter("anna", number, number, ("cut", name), bert=3) for number, name in
                ((2, "zoe"), (3, "anna"), (4, "emil"))]
        self.assert_people(read(founding("bert"), *acts), "anna", ["anna", "bert"], {})

    def test_a_cut_of_a_stranger_does_not_keep_the_person_away(self):
        acts = [letter("anna", 2, 2, ("cut", "bert")), letter("anna", 3, 3, ("add", "bert"))]
        self.assert_people(read(founding(), *acts), "anna", ["anna", "bert"], {})

    def test_a_second_cut_does_nothing(self):
        acts = [letter("anna", 2, 5, ("cut", "bert"), bert=2), letter("anna", 3, 9, ("cut", "bert"), bert=4),
                letter("anna", 4, 10, ("add", "bert"), bert=4), letter("anna", 5, 11, ("cut", "bert"), bert=1)]
        self.assert_people(read(founding("bert", "carl"), *acts), "anna", ["anna", "carl"], {"bert": 2})

    def test_hand_to_a_member(self):
        first = founding("bert")
        for acts in ([letter("anna", 2, 2, ("hand", "bert"))],
                     [letter("anna", 2, 2), letter("anna", 3, 3, ("hand", "bert"))]):
            roll = read(first, *acts)
            self.assert_people(roll, "bert", ["anna", "bert"], {})
            self.assertEqual(roll.founder, "anna")

    def test_hand_to_others_does_nothing(self):
        acts = [letter("anna", 2, 2, ("cut", "carl"), carl=1)]
        for number, name in ((3, "zoe"), (4, "anna"), (5, "carl")):
            acts.append(letter("anna", number, number, ("hand", name)))
        acts.append(letter("anna", 6, 6, ("add", "dora")))
        self.assert_people(read(founding("bert", "carl"), *acts), "anna", ["anna", "bert", "dora"], {"carl": 1})

    def test_acts_of_others_do_nothing(self):
        first = founding("bert", "carl")
        for act in (("add", "dora"), ("cut", "carl"), ("cut", "bert"), ("cut", "anna"), ("hand", "bert"), ("hand", "carl")):
            for author in ("bert", "emil"):
                with self.subTest(author, act=act):
                    rows = letter(author, 1, 2, act, anna=1), letter(author, 2, 3, act, anna=1)
                    self.assert_people(read(first, *rows), "anna", ["anna", "bert", "carl"], {})

    def test_acts_of_people_who_were_cut_do_nothing(self):
        first = founding("bert", "carl")
        rows = [letter("anna", 2, 4, ("cut", "bert"), bert=1), letter("bert", 1, 2, ("add", "dora"), anna=1),
                letter("bert", 2, 5, ("cut", "anna"), anna=2), letter("bert", 3, 6, ("hand", "carl"), anna=2)]
        self.assert_people(read(first, *rows), "anna", ["anna", "carl"], {"bert": 1})

    def test_the_founder_can_be_cut_when_it_is_not_the_keeper(self):
        first = founding("bert")
        rows = [letter("anna", 2, 2, ("hand", "bert")), letter("anna", 3, 3, ("say", "still here")),
                letter("bert", 1, 4, ("cut", "anna"), anna=3), letter("bert", 2, 5, ("add", "anna"), anna=3)]
        roll = read(first, *rows)
        self.assert_people(roll, "bert", ["bert"], {"anna": 3})
        self.assertEqual(roll.founder, "anna")
        self.assert_came(roll, {"anna": first, "bert": first})


class Hands(Rolls):
    def test_letters_of_the_old_keeper_behind_the_hand_do_nothing(self):
        first = founding("bert", "carl")
        rows = [letter("anna", 2, 2, ("hand", "bert")), letter("anna", 3, 3, ("add", "dora")),
                letter("anna", 4, 4, ("cut", "carl"), carl=2), letter("anna", 5, 5, ("hand", "carl")),
                letter("anna", 6, 6, ("cut", "bert"))]
        self.assert_people(read(first, *rows), "bert", ["anna", "bert", "carl"], {})

    def test_the_reading_goes_on_with_the_first_letter_that_has_seen_the_hand(self):
        first = founding("bert", "carl")
        hand = letter("anna", 2, 8, ("hand", "bert"))
        before = [letter("bert", 1, 2, ("add", "dora"), anna=1), letter("bert", 2, 3, ("cut", "anna"), anna=1)]
        fourth = letter("bert", 4, 10, ("add", "fred"), anna=2)
        for third, members in ((letter("bert", 3, 9, ("add", "emil"), anna=1), ["anna", "bert", "carl", "fred"]),
                               (letter("bert", 3, 9, ("add", "emil"), anna=2), ["anna", "bert", "carl", "emil", "fred"])):
            self.assert_people(read(first, hand, *before, third, fourth), "bert", members, {})
        self.assert_people(read(first, hand, *before), "bert", ["anna", "bert", "carl"], {})
        self.assert_people(read(first, hand, before[0]), "bert", ["anna", "bert", "carl"], {})

    def test_all_letters_are_taken_from_that_one_on(self):
        rows = [founding("bert"), letter("anna", 2, 2, ("hand", "bert")), letter("bert", 1, 3, anna=2),
                letter("bert", 2, 4, ("add", "carl"), anna=1), letter("bert", 3, 5, ("add", "dora"))]
        self.assert_people(read(*rows), "bert", ["anna", "bert", "carl", "dora"], {})

    def test_a_letter_that_has_seen_more_than_the_hand(self):
        rows = [founding("bert"), letter("anna", 2, 2, ("hand", "bert")), letter("anna", 3, 3, ("add", "carl")),
                letter("bert", 1, 4, ("add", "dora"), anna=3)]
        self.assert_people(read(*rows), "bert", ["anna", "bert", "dora"], {})

    def test_there_and_back(self):
        first = founding("bert")
        rows = [
            letter("anna", 2, 2, ("hand", "bert")),
            letter("bert", 1, 3, ("add", "carl"), anna=2),
            letter("anna", 3, 4, ("add", "dora"), bert=1),
            letter("bert", 2, 5, ("hand", "anna"), anna=3),
            letter("bert", 3, 6, ("add", "emil"), anna=3),
            letter("anna", 4, 7, ("add", "fred"), bert=1),
            letter("anna", 5, 8, ("add", "gina"), bert=2),
            letter("anna", 6, 9, ("cut", "bert"), bert=3),
        ]
        keepers = ["anna", "bert", "bert", "bert", "anna", "anna", "anna", "anna", "anna"]
        members = [["anna", "bert"]] * 2 + [["anna", "bert", "carl"]] * 5 + [["anna", "bert", "carl", "gina"]]
        for many in range(8):
            self.assert_people(read(first, *rows[:many]), keepers[many], members[many], {})
        self.assert_people(read(first, *rows), "anna", ["anna", "carl", "gina"], {"bert": 3})

    def test_the_keeper_after_several_hands(self):
        names = ["anna", "bert", "carl", "bert", "anna", "carl", "dora", "anna", "dora"]
        rows = hands(names)
        for many in range(1, len(rows) + 1):
            self.assert_people(read(*rows[:many]), names[many - 1], ["anna", "bert", "carl", "dora"], {})

    def test_the_reading_ends_where_the_new_keeper_has_no_letter(self):
        hand = letter("anna", 2, 2, ("hand", "bert"))
        more = letter("anna", 3, 3, ("hand", "carl"))
        first = founding("bert", "carl")
        for rows in ({"anna": [first, hand, more]}, {"bert": [], "anna": [first, hand, more]}):
            self.assert_people(roll_of("anna", rows), "bert", ["anna", "bert", "carl"], {})

    def test_hand_to_somebody_who_was_added(self):
        rows = [founding(), letter("anna", 2, 2, ("add", "bert")), letter("anna", 3, 3, ("hand", "bert")),
                letter("bert", 1, 4, ("cut", "anna"), anna=3)]
        self.assert_people(read(*rows), "bert", ["bert"], {"anna": 3})


class Counting(Rolls):
    def test_numbers_at_below_and_above_the_limit(self):
        roll = read(founding("bert", "carl"), letter("anna", 2, 9, ("cut", "bert"), bert=3))
        self.assertEqual([roll.counts(("bert", number)) for number in (1, 2, 3, 4, 5)], [True] * 3 + [False] * 2)
        self.assertEqual([roll.counts((name, 4)) for name in ("anna", "carl", "dora")], [True, True, False])

    def test_a_limit_of_none_and_of_the_greatest_number(self):
        for limit in (0, 1, GREATEST):
            counts = {"bert": limit} if limit else {}
            roll = read(founding("bert"), letter("anna", 2, 9, ("cut", "bert"), **counts))
            self.assertEqual(roll.cuts(), {"bert": limit})
            self.assertEqual((roll.limit("bert"), roll.limit("anna")), (limit, None))
            self.assertIs(roll.counts(("bert", limit + 1)), False)
            self.assertIs(roll.counts(("bert", max(limit, 1))), limit > 0)

    def test_it_does_not_ask_whether_there_is_such_a_letter(self):
        roll = read(founding("bert"))
        self.assertIs(roll.counts(("bert", GREATEST)), True)
        self.assertIs(roll.counts(("zoe", 1)), False)

    def test_the_order_of_the_cuts(self):
        rows = [founding("bert", "carl", "dora")]
        for number, name in ((2, "dora"), (3, "bert"), (4, "carl"), (5, "dora")):
            rows.append(letter("anna", number, number, ("cut", name)))
        self.assertEqual(list(read(*rows).cuts()), ["dora", "bert", "carl"])


class Effects(Rolls):
    def test_what_is_returned_is_new(self):
        roll = read(founding("bert", "carl"), letter("anna", 2, 9, ("cut", "bert"), bert=3))
        before = roll_state(roll)
        roll.members().append("zoe")
        roll.members().clear()
        roll.cuts()["zoe"] = 1
        roll.cuts().clear()
        self.assertEqual(roll_state(roll), before)

    def test_what_is_passed_stays(self):
        for seed in range(20):
            rows = odd_rows(seed, 30)
            before = {name: list(row) for name, row in rows.items()}
            told = {name: values(row) for name, row in rows.items()}
            roll = roll_of("anna", rows)
            roll.members(), roll.cuts(), roll.counts(("bert", 1)), roll.came_by("anna")
            self.assertEqual((list(rows), rows), (list(before), before))
            self.assertEqual({name: values(row) for name, row in rows.items()}, told)

    def test_what_is_put_into_it_later_has_no_effect(self):
        rows = rows_of(founding("bert"), letter("anna", 2, 2, ("add", "carl")))
        roll = roll_of("anna", rows)
        before = roll_state(roll)
        rows["anna"].append(letter("anna", 3, 3, ("cut", "bert")))
        rows["bert"] = [letter("bert", 1, 2)]
        del rows["anna"][1]
        self.assertEqual(roll_state(roll), before)
        rows.clear()
        self.assertEqual(roll_state(roll), before)

    def test_two_rolls_of_the_same_rows(self):
        rows = odd_rows(3, 30)
        first, second = roll_of("anna", rows), roll_of("anna", copy.deepcopy(rows))
        self.assertEqual(roll_state(first), roll_state(second))
        first.members().clear()
        self.assertEqual(roll_state(first), roll_state(second))

    def test_the_order_of_the_rows_has_no_effect(self):
        for seed in range(30):
            rows = odd_rows(seed, 30)
            turned = {name: rows[name] for name in reversed(rows)}
            self.assertEqual(roll_state(roll_of("anna", turned)), roll_state(roll_of("anna", rows)))

    def test_rows_of_any_letters_against_the_plain_reading(self):
        seen = {"hands": 0, "cuts": 0, "adds": 0}
        for seed in range(600):
            rows = odd_rows(seed, seed // 10)
            roll = roll_of("anna", rows)
            with self.subTest(seed):
                self.assertEqual(roll_state(roll), roll_state(PlainRoll("anna", rows)))
            seen["hands"] += roll.keeper != "anna"
            seen["cuts"] += len(roll.cuts())
            seen["adds"] += len(roll.members()) > 3
        self.assertGreater(min(seen.values()), 50)

    def test_the_arguments_by_name(self):
        roll = roll_of(rows={"anna": [founding("bert")]}, founder="anna")
        self.assertIs(roll.is_known(name="bert"), True)
        self.assertIs(roll.is_member(name="zoe"), False)
        self.assertIs(roll.counts(ref=("bert", 1)), True)
        self.assertEqual((roll.limit(name="bert"), roll.came_by(name="bert").ref), (None, ("anna", 1)))


if __name__ == "__main__":
    unittest.main()
