"""Tests of lettersonce.diary: point 7.1."""

import unittest

from lettersonce.archive import archive
from lettersonce.diary import entry, read_diary
from lettersonce.folding import fold
from lettersonce.headers import header_lines
from lettersonce.letters import Letter
from lettersonce.mail import mail_lines

from rooms import letter
from samples import BODIES, letter_of, letters, long_letters

ROOM = ("anna", "tea")
OTHER = ("bert7", "a1b2c3d4e5f6")


def folded(room, row, width):
    """Return an entry with all header lines folded to a width."""
    lines = [part for line in header_lines(row) for part in fold(line, width)]
    written = mail_lines(row)
    return "".join([line + "\n" for line in ["Room: " + " ".join(room)] + lines + written[written.index(""):]])


class Entries(unittest.TestCase):
    def test_an_entry_by_hand(self):
        expected = ("Room: bert7 a1b2c3d4e5f6\nFrom: anna 1\nStamp: 1\nSeen: anna 1\nKind: found\nTitle: Tea at five\n"
                    "Members: bert, carl\n\n.\n")
        self.assertEqual(entry(OTHER, letter_of(BODIES["found"])), expected)
        expected = "Room: anna tea\nFrom: bert 2\nStamp: 5\nSeen: anna 4, bert 2\nKind: mark\nRef: anna 2\nWord: star\n\n.\n"
        self.assertEqual(entry(ROOM, letter_of(BODIES["mark"])), expected)

    def test_an_entry_of_each_kind(self):
        for row in letters() + long_letters():
            for room in (ROOM, OTHER, ("a", "b")):
                with self.subTest(row.value()):
                    text = entry(room, row)
                    self.assertIs(type(text), str)
                    self.assertEqual(text, f"Room: {room[0]} {room[1]}\n" + archive([row]))

    def test_the_arguments_by_name(self):
        row = letters()[0]
        self.assertEqual(entry(letter=row, room=ROOM), entry(ROOM, row))
        self.assertEqual(read_diary(text="")[1], 0)


class Reading(unittest.TestCase):
    def assert_read(self, text, entries, length):
        """Assert that these pairs of room and letter are read, and that they are so long."""
        answer = read_diary(text)
        self.assertIs(type(answer), tuple)
        read, many = answer
        self.assertEqual((type(read), many), (list, length))
        self.assertEqual([(room, row.value()) for room, row in read], [(room, row.value()) for room, row in entries])
        for pair in read:
            self.assertEqual([type(pair), type(pair[0]), type(pair[1])], [tuple, tuple, Letter])

    def test_no_text(self):
        self.assert_read("", [], 0)

    def test_one_entry_of_each_kind(self):
        for row in letters() + long_letters():
            text = entry(ROOM, row)
            self.assert_read(text, [(ROOM, row)], len(text))

    def test_many_entries_of_several_rooms(self):
        rows = letters() + long_letters()
        entries = [([ROOM, OTHER, ("a", "b")][index % 3], row) for index, row in enumerate(rows)]
        text = "".join([entry(room, row) for room, row in entries])
        self.assert_read(text, entries, len(text))
        self.assert_read(text + text, entries * 2, 2 * len(text))

    def test_header_lines_that_are_folded_in_another_way(self):
        rows = letters() + long_letters()
        for width in (1, 5, 13, 60, 1000):
            text = "".join([folded(ROOM, row, width) for row in rows])
            self.assert_read(text, [(ROOM, row) for row in rows], len(text))
            self.assert_read(text + "Room: anna", [(ROOM, row) for row in rows], len(text))

    def test_a_text_that_is_cut_at_each_character(self):
        entries = [(ROOM, letter_of(BODIES["found"])), (OTHER, letter_of(BODIES["say"])), (ROOM, letter_of(BODIES["reply"])),
                   (OTHER, letter("anna", 3, 7, ("say", "Room: anna tea\nFrom: anna 1\n\n.\n"), bert=5))]
        texts = [entry(room, row) for room, row in entries]
        text = "".join(texts)
        ends = [len("".join(texts[:many])) for many in range(len(texts) + 1)]
        for cut in range(len(text) + 1):
            many = max([index for index, end in enumerate(ends) if end <= cut])
            self.assert_read(text[:cut], entries[:many], ends[many])

    def test_something_else_between_two_entries(self):
        row = letter_of(BODIES["say"])
        first, second = entry(ROOM, row), entry(OTHER, row)
        for between in ("\n", " \n", ".\n", "|more\n", "Room: anna tea\n", "From: anna 1\n", " anna tea\n", "x", "\t\n", " "):
            with self.subTest(between):
                self.assert_read(first + between + second, [(ROOM, row)], len(first))
                self.assert_read(between + first + second, [], 0)

    def test_changed_lines_of_the_room(self):
        row = letter_of(BODIES["say"])
        first, mail = entry(OTHER, row), archive([row])
        for line in ("Room: anna\n tea\n", "Room:\n anna tea\n", "Room: anna  tea\n", "Room:  anna tea\n", "Room: anna tea \n",
                     " Room: anna tea\n", "room: anna tea\n", "Room:anna tea\n", "Room anna tea\n", "Room: anna, tea\n",
                     "Room: anna\ttea\n", "Room: anna tea.\n", "Rooms: anna tea\n", "\nRoom: anna tea\n", "Room: anna tea\n\n",
                     "XRoom: anna tea\n", "Doom: anna tea\n", "Room- anna tea\n", "Room: anna tea", "", "\n",
                     "Room: anna tea\nRoom: anna tea\n"):
            with self.subTest(line):
                self.assert_read(line + mail, [], 0)
                self.assert_read(first + line + mail + first, [(OTHER, row)], len(first))

    def test_rooms_that_are_none(self):
        row = letter_of(BODIES["say"])
        first, mail = entry(OTHER, row), archive([row])
        for words in ("anna", "", " ", "anna Tea", "7anna tea", "anna 7", "anna tea five", "anna abcdefghijklm", "anna ",
                      " tea", "an-na tea", "anna tea1_"):
            with self.subTest(words):
                self.assert_read(f"Room: {words}\n{mail}", [], 0)
                self.assert_read(f"{first}Room: {words}\n{mail}{first}", [(OTHER, row)], len(first))

    def test_mail_that_is_none(self):
        row = letter_of(BODIES["say"])
        whole = entry(ROOM, row)
        for wrong in (whole.replace("Lines: 2", "Lines: 3"), whole.replace("\n.\n", "\n"), whole.replace("bert 2", "bert 02"),
                      whole.replace("\n|there", ""), whole.replace("Room: anna tea\n", "Room: anna tea\n "),
                      whole.replace("\n\n", "\n"), whole.replace("Kind: say", "Kind: seen")):
            self.assertNotEqual(wrong, whole)
            self.assert_read(wrong, [], 0)
            self.assert_read(whole + wrong + whole, [(ROOM, row)], len(whole))

    def test_what_is_returned_is_new(self):
        text = entry(ROOM, letter_of(BODIES["say"]))
        read_diary(text)[0].clear()
        self.assertEqual(len(read_diary(text)[0]), 1)


if __name__ == "__main__":
    unittest.main()
