"""Tests of lettersonce.inbox: point 10.4."""

import random
import re
import unittest

from lettersonce.inbox import Inbox
from lettersonce.letters import Letter

from boards import ROOM, Writer, some_letters
from rooms import NAMES, refs, values

MILK = ("anna", "milk")


def says(*texts, author="anna"):
    """Return letters with these texts."""
    return [Letter(author, number, number + 1, ((author, number),), ("say", text)) for number, text in enumerate(texts, start=1)]


class Reading(unittest.TestCase):
    def test_a_new_inbox(self):
        inbox = Inbox("bert")
        self.assertEqual((inbox.name, inbox.read(ROOM), inbox.read(MILK)), ("bert", 0, 0))
        self.assertEqual((inbox.unread(ROOM, []), inbox.mentions(ROOM, [])), ([], []))

    def test_counts_that_rise_and_fall(self):
        inbox = Inbox("bert")
        for count, expected in ((0, 0), (3, 3), (3, 3), (2, 3), (0, 3), (4, 4), (10 ** 9, 10 ** 9), (5, 10 ** 9)):
            self.assertIsNone(inbox.mark_read(ROOM, count))
            self.assertEqual(inbox.read(ROOM), expected)

    def test_rooms_of_one_founder_and_of_one_word(self):
        inbox = Inbox("bert")
        rooms = [("anna", "tea"), ("anna", "milk"), ("bert", "tea"), ("tea", "anna")]
        for count, room in enumerate(rooms, start=1):
            inbox.mark_read(room, count)
        self.assertEqual([inbox.read(room) for room in rooms + [("bert", "milk")]], [1, 2, 3, 4, 0])
        letters = says("one", "two", "three", "four", "five")
        self.assertEqual([len(inbox.unread(room, letters)) for room in rooms], [4, 3, 2, 1])

    def test_reading_and_asking_changes_nothing(self):
        inbox = Inbox("bert")
        letters = says("one @bert", "two")
        for _ in range(2):
            self.assertEqual((inbox.unread(ROOM, letters), inbox.mentions(ROOM, letters)), (refs(letters), refs(letters[:1])))
        self.assertEqual((inbox.read(ROOM), inbox.read(MILK)), (0, 0))

    def test_two_inboxes_have_no_effect_on_each_other(self):
        one, other = Inbox("bert"), Inbox("bert")
        one.mark_read(ROOM, 5)
        self.assertEqual((one.read(ROOM), other.read(ROOM)), (5, 0))
        other.mark_read(MILK, 2)
        self.assertEqual(one.read(MILK), 0)

    def test_the_arguments_by_name(self):
        inbox = Inbox(name="bert")
        self.assertIsNone(inbox.mark_read(count=1, room=ROOM))
        self.assertEqual(inbox.read(room=ROOM), 1)
        letters = says("@bert", "@bert")
        self.assertEqual(inbox.unread(letters=letters, room=ROOM), [("anna", 2)])
        self.assertEqual(inbox.mentions(letters=letters, room=ROOM), [("anna", 2)])


class Unread(unittest.TestCase):
    def setUp(self):
        """Letters of all kinds, by bert and by others."""
        writer = Writer("bert", "carl")
        writer.write("anna", "say", "one @bert")
        writer.write("bert", "say", "two @bert")
        writer.write("carl", "reply", ("anna", 2), "three")
        writer.write("anna", "edit", ("anna", 2), "four @bert")
        writer.write("anna", "mark", ("bert", 1), "bert")
        writer.write("anna", "title", "@bert")
        writer.write("anna", "add", "dora")
        writer.write("bert", "reply", ("anna", 2), "five @bert")
        writer.write("dora", "reply", ("bert", 1), "six @bert!")
        writer.write("anna", "seen")
        writer.write("anna", "recall", ("anna", 2))
        writer.write("carl", "say", "seven")
        self.letters = writer.letters
        self.places = [1, 3, 9, 12]
        self.calls = [1, 9]

    def assert_left(self, name, count, unread, mentions):
        inbox = Inbox(name)
        inbox.mark_read(ROOM, count)
        for answer, places in ((inbox.unread(ROOM, self.letters), unread), (inbox.mentions(ROOM, self.letters), mentions)):
            self.assertEqual((answer, type(answer)), ([self.letters[place].ref for place in places], list))

    def test_nothing_read(self):
        self.assert_left("bert", 0, [1, 3, 9, 12], [1, 9])

    def test_each_count(self):
        for count in range(len(self.letters) + 5):
            self.assert_left("bert", count, [place for place in self.places if place >= count],
                             [place for place in self.calls if place >= count])

    def test_all_read_and_more(self):
        for count in (len(self.letters), len(self.letters) + 1, 1000, 10 ** 18):
            self.assert_left("bert", count, [], [])

    def test_the_letters_that_are_left_out_are_those_of_any_kind_and_of_anybody(self):
        self.assertEqual([row.body[0] for row in self.letters[:5]], ["found", "say", "say", "reply", "edit"])
        self.assert_left("bert", 1, [1, 3, 9, 12], [1, 9])
        self.assert_left("bert", 2, [3, 9, 12], [9])
        self.assert_left("bert", 3, [3, 9, 12], [9])
        self.assert_left("bert", 4, [9, 12], [9])
        self.assert_left("bert", 9, [9, 12], [9])
        self.assert_left("bert", 10, [12], [])

    def test_of_others(self):
        self.assert_left("anna", 0, [2, 3, 8, 9, 12], [])
        self.assert_left("carl", 0, [1, 2, 8, 9], [])
        self.assert_left("dora", 0, [1, 2, 3, 8, 12], [])
        self.assert_left("zoe", 0, [1, 2, 3, 8, 9, 12], [])

    def test_letters_of_the_person_itself_alone(self):
        inbox = Inbox("anna")
        letters = says("one", "two @anna")
        self.assertEqual((inbox.unread(ROOM, letters), inbox.mentions(ROOM, letters)), ([], []))

    def test_the_letters_stay(self):
        before, rows = values(self.letters), list(self.letters)
        inbox = Inbox("bert")
        inbox.mark_read(ROOM, 2)
        inbox.unread(ROOM, self.letters).clear()
        inbox.mentions(ROOM, self.letters).clear()
        self.assertEqual((values(self.letters), self.letters), (before, rows))
        self.assertEqual(len(inbox.unread(ROOM, self.letters)), 3)


class Mentions(unittest.TestCase):
    def assert_calls(self, text, name="bert", expected=True):
        for letters in (says(text, author="zoe"), [Letter("zoe", 1, 2, (("zoe", 1),), ("reply", ("anna", 1), text))]):
            answer = Inbox(name).mentions(ROOM, letters)
            self.assertEqual((answer, type(answer)), ([("zoe", 1)] if expected else [], list), text)

    def test_where_the_name_stands(self):
        for text in ("@bert", "@bert hello", "hello @bert", "hello @bert, hello", "x@bert", "7@bert", "a\n@bert\nb", "\n@bert\n",
                     "(@bert)", "@@bert", "@ @bert", "@bert@anna", "@anna@bert", "@ber@bert", "@bert7 @bert", "@bertbert@bert"):
            self.assert_calls(text)

    def test_each_character_behind_the_name(self):
        for code in list(range(32, 127)) + [10]:
            sign = chr(code)
            free = not ("a" <= sign <= "z" or "0" <= sign <= "9")
            self.assert_calls(f"@bert{sign}", expected=free)
            self.assert_calls(f"@bert{sign} and so on", expected=free)
            self.assert_calls(f"hello @bert{sign}@", expected=free)

    def test_texts_that_do_not_call(self):
        for text in ("bert", "hello bert", "@ bert", "@\nbert", "@Bert", "@BERT", "@berT", "@ber", "@ber t", "@berta", "@bert7",
                     "@bertbert", "@xbert", "@7bert", "bert@", "@", "@@", "hello", "@anna", "@-bert", "@ber@t", "#bert", "@b@e@r@t"):
            self.assert_calls(text, expected=False)

    def test_the_name_of_somebody_else_that_begins_with_this_name(self):
        for text, name, expected in (("@anna", "ann", False), ("@anna @ann", "ann", True), ("@ann", "anna", False), ("@a1 @a", "a", True),
                                     ("@a1", "a", False), ("@a1", "a1", True), ("@ann @annabell", "anna", False),
                                     ("@a23456789012", "a23456789012", True), ("@a234567890123", "a23456789012", False)):
            self.assert_calls(text, name, expected)

    def test_against_an_expression(self):
        chance, found = random.Random(1), 0
        for _ in range(3000):
            text = "".join([chance.choice(["@", "@", "a", "b", "ab", "1", " ", "\n", "A", "@ab"]) for _ in range(chance.randint(1, 9))])
            for name in ("ab", "a", "ab1"):
                expected = bool(re.search(f"@{name}(?![a-z0-9])", text))
                found += expected
                self.assertEqual(bool(Inbox(name).mentions(ROOM, says(text, author="zoe"))), expected, text)
        self.assertGreater(found, 500)

    def test_against_a_plain_model(self):
        for seed in range(20):
            letters = some_letters(seed, 60)
            for name in NAMES[:4]:
                inbox, count = Inbox(name), seed * 4
                inbox.mark_read(ROOM, count)
                left = [row for place, row in enumerate(letters) if place >= count]
                expected = [row.ref for row in left if row.body[0] in ("say", "reply") and row.author != name]
                self.assertEqual(inbox.unread(ROOM, letters), expected)


if __name__ == "__main__":
    unittest.main()
