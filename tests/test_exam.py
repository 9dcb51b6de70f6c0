"""Tests of lettersonce.exam: point 11.1, and point 0.3 for the histories of whole towns."""

import random
import time
import unittest

from lettersonce.exam import exam
from lettersonce.letters import Letter
from lettersonce.meeting import meet
from lettersonce.settling import settled

from rooms import NAMES, founding, honest_letters, ledger_of, letter, values
from towns import BusyTown, have_room


def plain_exam(histories):
    """Return the findings, each point of 11.1 asked of all letters for itself."""
    findings = []
    for index, letters in enumerate(histories):
        for place, row in enumerate(letters):
            earlier = letters[:place]
            own = [other for other in earlier if other.author == row.author]
            others = [other[place].value() for other in histories[:index] if place < len(other)]
            words = []
            if [other for other in earlier if (other.author, other.number) == (row.author, row.number)]:
                words.append("twice")
            if row.number != (own[-1].number + 1 if own else 1):
                words.append("gap")
            if earlier and (row.stamp, row.author) <= (earlier[-1].stamp, earlier[-1].author):
                words.append("order")
            if [other for other in earlier if dict(other.seen).get(row.author, 0) >= row.number]:
                words.append("behind")
            if [value for value in others if value != row.value()]:
                words.append("unlike")
            if words:
                findings.append((words[0], index, place))
    return findings


def good():
    """Return a new list of letters in which there is no fault."""
    return [founding("bert"), letter("anna", 2, 2), letter("bert", 1, 3, anna=2), letter("anna", 3, 4, bert=1),
            letter("bert", 2, 4, anna=2), letter("anna", 4, 7, bert=2)]


class Exams(unittest.TestCase):
    def assert_finds(self, histories, expected):
        """Assert what the exam finds, that it is a new list, and that all lists stay."""
        before = [values(letters) for letters in histories], list(histories), [list(letters) for letters in histories]
        findings = exam(histories)
        self.assertEqual((findings, type(findings)), (expected, list))
        self.assertEqual({type(row) for row in findings} - {tuple}, set())
        self.assertEqual(findings, plain_exam(histories))
        findings.append("more")
        self.assertEqual(exam(histories), expected)
        after = [values(letters) for letters in histories], list(histories), [list(letters) for letters in histories]
        self.assertEqual(after, before)


class OneList(Exams):
    def test_nothing_to_look_at(self):
        for histories in ([], [[]], [[], []], [[], [], []]):
            self.assert_finds(histories, [])

    def test_a_history_without_a_fault(self):
        self.assert_finds([good()], [])
        for many in range(len(good())):
            self.assert_finds([good()[:many]], [])

    def test_twice(self):
        rows = [founding("bert"), letter("anna", 2, 2), letter("anna", 2, 3)]
        self.assert_finds([rows], [("twice", 0, 2)])
        self.assert_finds([rows + [letter("anna", 2, 4), letter("anna", 3, 5)]], [("twice", 0, 2), ("twice", 0, 3)])
        self.assert_finds([[founding("bert"), founding("bert")]], [("twice", 0, 1)])
        self.assert_finds([[founding("bert"), letter("bert", 1, 2), letter("anna", 1, 3), letter("bert", 1, 4)]],
                          [("twice", 0, 2), ("twice", 0, 3)])

    def test_gap(self):
        self.assert_finds([[letter("anna", 2, 2)]], [("gap", 0, 0)])
        self.assert_finds([[founding("bert"), letter("anna", 3, 2)]], [("gap", 0, 1)])
        self.assert_finds([[founding("bert"), letter("anna", 3, 2), letter("anna", 4, 3)]], [("gap", 0, 1)])
        self.assert_finds([[founding("bert"), letter("bert", 2, 2), letter("anna", 2, 3), letter("bert", 4, 4)]],
                          [("gap", 0, 1), ("gap", 0, 3)])
        rows = [letter("anna", number, stamp, **{"bert": 1}) for stamp, number in enumerate([1, 3, 2, 3, 4], start=2)]
        self.assertEqual([row[0] for row in exam([rows])], ["gap", "gap", "twice"])

    def test_the_last_earlier_letter_of_the_author_not_the_one_ahead(self):
        rows = [founding("bert", "carl"), letter("bert", 1, 2), letter("carl", 1, 3), letter("carl", 2, 4), letter("bert", 2, 5),
                letter("anna", 2, 6)]
        self.assert_finds([rows], [])
        self.assert_finds([rows[:1] + rows[2:]], [("gap", 0, 3)])

    def test_order(self):
        self.assert_finds([[founding("bert"), letter("anna", 2, 5), letter("bert", 1, 4)]], [("order", 0, 2)])
        self.assert_finds([[founding("bert"), letter("bert", 1, 4), letter("anna", 2, 4)]], [("order", 0, 2)])
        self.assert_finds([[founding("bert"), letter("anna", 2, 4), letter("bert", 1, 4)]], [])
        self.assert_finds([[founding("bert"), letter("anna", 2, 4), letter("anna", 3, 4)]], [("order", 0, 2)])

    def test_the_letter_directly_ahead_and_not_the_greatest(self):
        rows = [founding("bert"), letter("anna", 2, 9), letter("bert", 1, 3), letter("anna", 3, 4), letter("bert", 2, 5)]
        self.assert_finds([rows], [("order", 0, 2)])

    def test_behind(self):
        rows = [founding("bert"), letter("anna", 2, 2, bert=1), letter("bert", 1, 3)]
        self.assert_finds([rows], [("behind", 0, 2)])
        rows = [founding("bert"), letter("anna", 2, 2, bert=2), letter("anna", 3, 3), letter("bert", 1, 4), letter("bert", 2, 5),
                letter("bert", 3, 6)]
        self.assert_finds([rows], [("behind", 0, 3), ("behind", 0, 4)])

    def test_the_letter_itself_and_later_ones_may_have_seen_it(self):
        rows = [founding("bert"), letter("bert", 1, 2), letter("anna", 2, 3, bert=2), letter("bert", 2, 4, anna=2),
                letter("bert", 3, 5, anna=2)]
        self.assert_finds([rows], [("behind", 0, 3)])
        self.assert_finds([[founding("bert"), letter("bert", 1, 2), letter("anna", 2, 3, bert=1), letter("bert", 2, 4, anna=2)]], [])

    def test_the_first_word_that_applies(self):
        """Each two words in turn, and all of them."""
        first = founding("bert")
        for row, word in (
            (letter("anna", 2, 2), "twice"), (letter("anna", 1, 9), "twice"), (letter("anna", 2, 1), "twice"),
            (letter("anna", 4, 2), "gap"), (letter("anna", 4, 3), "gap"), (letter("carl", 2, 1), "gap"), (letter("carl", 2, 9), "gap"),
            (letter("anna", 3, 3), "order"), (letter("bert", 1, 3), "order"), (letter("carl", 1, 3), "order"),
            (letter("carl", 1, 4), "behind"), (letter("anna", 3, 4), "behind"),
        ):
            rows = [first, letter("anna", 2, 2), letter("dora", 1, 3, anna=9, bert=9, carl=9), row]
            self.assert_finds([rows], [(word, 0, 3)])
            self.assert_finds([good(), rows], [("unlike", 1, 2), (word, 1, 3)])
            self.assert_finds([good()[:2] + rows[2:3] + [letter("emil", 1, 9)], rows], [(word, 1, 3)])

    def test_behind_and_unlike(self):
        one = [founding("bert"), letter("anna", 2, 2, bert=1), letter("bert", 1, 3)]
        other = [founding("bert"), letter("anna", 2, 2, bert=1), letter("bert", 1, 4)]
        self.assert_finds([one, other], [("behind", 0, 2), ("behind", 1, 2)])


class SeveralLists(Exams):
    def test_lists_that_are_equal(self):
        self.assert_finds([good(), good(), good()], [])
        rows = good()
        self.assert_finds([rows, rows], [])

    def test_lists_of_unlike_lengths(self):
        self.assert_finds([good(), good()[:2], good()[:4], [], good()], [])
        self.assert_finds([good()[:1], good(), good()[:3]], [])

    def test_unlike(self):
        other = good()
        other[3] = letter("anna", 3, 5, bert=1)
        self.assert_finds([good(), other], [("unlike", 1, 3), ("order", 1, 4)])
        other[3] = letter("anna", 3, 4, ("say", "x"), bert=1)
        self.assert_finds([good(), other], [("unlike", 1, 3)])
        self.assert_finds([other, good()], [("unlike", 1, 3)])

    def test_unlike_in_each_part_of_the_value(self):
        for row in (letter("anna", 2, 2, ("say", "x")), letter("anna", 2, 3), letter("anna", 2, 2, bert=1), letter("bert", 1, 2)):
            self.assert_finds([good()[:2], [founding("bert"), row]], [("unlike", 1, 1)])

    def test_against_any_earlier_list_and_not_against_a_later_one(self):
        odd = good()
        odd[5] = letter("anna", 4, 7, ("say", "x"), bert=2)
        self.assert_finds([good(), odd, good()], [("unlike", 1, 5), ("unlike", 2, 5)])
        self.assert_finds([odd, good(), odd], [("unlike", 1, 5), ("unlike", 2, 5)])
        self.assert_finds([good(), good(), odd], [("unlike", 2, 5)])
        self.assert_finds([good()[:5], odd, good()], [("unlike", 2, 5)])
        self.assert_finds([odd, good()[:5], good()], [("unlike", 2, 5)])
        self.assert_finds([odd, good()[:5], odd], [])

    def test_at_the_same_place_only(self):
        rows = good()
        self.assert_finds([rows, rows[:1] + rows[2:]],
                          [("unlike", 1, 1), ("gap", 1, 2), ("unlike", 1, 3), ("unlike", 1, 4)])

    def test_by_the_value_and_not_by_the_object(self):
        one, other = [founding("bert")], [founding("bert")]
        self.assertIsNot(one[0], other[0])
        self.assert_finds([one, other], [])

    def test_findings_in_several_lists(self):
        one = [founding("bert"), letter("anna", 3, 3), letter("anna", 3, 4)]
        other = [letter("bert", 1, 2), letter("anna", 1, 2)]
        self.assert_finds([one, [], other, one], [("gap", 0, 1), ("twice", 0, 2), ("unlike", 2, 0), ("order", 2, 1), ("unlike", 3, 0),
                                                  ("gap", 3, 1), ("twice", 3, 2)])

    def test_each_list_is_read_for_itself(self):
        self.assert_finds([[founding("bert")], [letter("anna", 2, 2)]], [("gap", 1, 0)])
        self.assert_finds([[founding("bert"), letter("anna", 2, 9)], [founding("bert"), letter("anna", 2, 3)]], [("unlike", 1, 1)])

    def test_the_argument_by_name(self):
        self.assertEqual(exam(histories=[good()]), [])


class OddValues(Exams):
    def test_values_that_are_no_letter_values(self):
        """Numbers that are none, bodies of anything, letters that have not seen themselves."""
        rows = [Letter("", 0, -5, (), ()), Letter("", 1, -4, (("", -7), ("x", 10 ** 30)), (["list"], {})),
                Letter("x", 1, 0, (), (None,))]
        self.assert_finds([rows], [("gap", 0, 0), ("behind", 0, 2)])
        other = rows[:1] + [Letter("", 1, -4, (("", -7), ("x", 10 ** 30)), (["list"], {"a": 1}))]
        self.assert_finds([rows, other], [("gap", 0, 0), ("behind", 0, 2), ("gap", 1, 0), ("unlike", 1, 1)])

    def test_numbers_below_one(self):
        """A letter has the count 0 for names that it does not tell, so that it has seen the letter with the number 0."""
        below = Letter("anna", -1, 1, (("anna", -1),), ())
        self.assert_finds([[below, Letter("anna", 0, 2, (), ())]], [("gap", 0, 0)])
        self.assert_finds([[Letter("bert", 1, 0, (), ()), below, Letter("anna", 0, 2, (), ())]], [("gap", 0, 1), ("behind", 0, 2)])
        self.assert_finds([[below, Letter("bert", 1, 1, (("anna", -3),), ()), Letter("anna", 0, 2, (), ())]], [("gap", 0, 0)])
        self.assert_finds([[below, Letter("bert", 1, 1, (("anna", 0),), ()), Letter("anna", 0, 2, (), ())]],
                          [("gap", 0, 0), ("behind", 0, 2)])

    def test_against_the_plain_model(self):
        chance, words = random.Random(5), {}
        for _ in range(3000):
            names = ["a", "b", "c"][:chance.randint(1, 3)]
            histories = []
            for _ in range(chance.randint(1, 4)):
                rows = list(chance.choice(histories))[:chance.randint(0, 5)] if histories and chance.random() < 0.7 else []
                for _ in range(chance.randint(0, 5)):
                    name = chance.choice(names)
                    own = [row.number for row in rows if row.author == name]
                    number = chance.choice([(own[-1] if own else 0) + 1] * 6 + [chance.randint(-2, 3)])
                    stamp = (rows[-1].stamp if rows else 0) + chance.choice([1, 1, 1, 1, 1, 0, -1])
                    seen = tuple([(other, chance.randint(-2, 3)) for other in names if chance.random() < 0.3])
                    rows.append(Letter(name, number, stamp, seen, chance.choice([(), ("x",), ([],)])))
                histories.append(rows)
            expected = plain_exam(histories)
            self.assertEqual(exam(histories), expected)
            for word, _, _ in expected:
                words[word] = words.get(word, 0) + 1
        self.assertEqual(sorted(words), ["behind", "gap", "order", "twice", "unlike"])
        self.assertGreater(min(words.values()), 200, words)


class WholeTowns(Exams):
    def test_the_histories_of_all_desks_pass(self):
        """Behind stops, losses and meetings, at many moments, and of different moments together."""
        looked_at = 0
        for seed in range(20):
            busy = BusyTown(seed, people=tuple(NAMES[:2 + seed % 5]), many_rooms=1 + seed % 2, acts=[0.05, 0.3][seed % 2], stops=0.05)
            earlier = {room: [] for room in busy.rooms}
            for step in range(240):
                busy.step()
                if step % 80 == 70:
                    meet(busy.town, busy.rooms[-1])
                if step % 12 == 0 or step % 80 == 71:
                    for room in busy.rooms:
                        earlier[room] += [busy.town.desk(name).history(room) for name in have_room(busy.town, room)]
                        self.assertEqual(exam(earlier[room]), [], seed)
            looked_at += sum([len(letters) for histories in earlier.values() for letters in histories])
        self.assertGreater(looked_at, 1000)

    def test_a_history_that_was_tampered_with_does_not_pass(self):
        rows = settled(ledger_of(*honest_letters(3, 120)))
        self.assertGreater(len(rows), 4)
        self.assertEqual(exam([rows, rows[:-1]]), [])
        for place in range(len(rows) - 1):
            other = rows[:place] + [rows[place + 1], rows[place]] + rows[place + 2:]
            self.assertNotEqual(exam([rows, other]), [])
            self.assertNotEqual(exam([other]), [])
            self.assertNotEqual(exam([rows, rows[:place] + rows[place + 1:]]), [])

    def test_thousands_of_letters(self):
        numbers, rows = {}, []
        chance = random.Random(1)
        for stamp in range(1, 5001):
            name = chance.choice(NAMES)
            numbers[name] = numbers.get(name, 0) + 1
            rows.append(Letter(name, numbers[name], stamp, tuple(sorted(numbers.items())), ("say", "hello")))
        other = [Letter(*row.value()) for row in rows]
        started = time.perf_counter()
        self.assertEqual(exam([rows, other, rows[:3000], other, rows]), [])
        other[4321] = Letter(*rows[4321].value()[:4], ("seen",))
        self.assertEqual(exam([rows, other, rows]), [("unlike", 1, 4321), ("unlike", 2, 4321)])
        self.assertLess(time.perf_counter() - started, 5)


if __name__ == "__main__":
    unittest.main()
