"""Tests of lettersonce.archive: points 3.6 to 3.8."""

import unittest

from lettersonce.archive import archive, read_archive, read_beginning
from lettersonce.errors import BadMail, RoomError
from lettersonce.folding import fold
from lettersonce.headers import header_lines
from lettersonce.letters import Letter
from lettersonce.mail import mail_lines

from samples import BODIES, letter_of, letters, long_letters

# The archive of two letters, written by hand.
TWO = letter_of(BODIES["say"]), letter_of(BODIES["found"])
TEXT_OF_TWO = """\
From: bert 2
Stamp: 5
Seen: anna 4, bert 2
Kind: say
Lines: 2

|Hello
|there
.
From: anna 1
Stamp: 1
Seen: anna 1
Kind: found
Title: Tea at five
Members: bert, carl

.
"""


def folded_archive(rows, width):
    """Return the archive of letters with all header lines folded to a width."""
    lines = []
    for letter in rows:
        written = mail_lines(letter)
        lines += [part for line in header_lines(letter) for part in fold(line, width)] + written[written.index(""):]
    return "".join([line + "\n" for line in lines])


def many_letters(many):
    """Return the list of that many letters of all kinds but founding ones, behind one founding letter."""
    rows = [letter_of(BODIES["found"])]
    bodies = [body for kind, body in BODIES.items() if kind != "found"]
    for number in range(1, many):
        seen = (("anna", number), ("bert", number))
        rows.append(Letter("bert", number, number + 1, seen, bodies[number % len(bodies)]))
    return rows


def values(rows):
    return [letter.value() for letter in rows]


class Archives(unittest.TestCase):
    def assert_read(self, text, rows):
        """Assert that the letters are read from a text that is all theirs."""
        self.assertEqual(values(read_archive(text)), values(rows))
        self.assert_beginning(text, rows, len(text))

    def assert_bad(self, text):
        with self.assertRaises(BadMail) as caught:
            read_archive(text)
        self.assertIs(type(caught.exception), BadMail)
        self.assertIsInstance(caught.exception, RoomError)
        self.assertEqual(values(read_archive(TEXT_OF_TWO)), values(TWO))

    def assert_beginning(self, text, rows, length):
        """Assert that the letters are read from the beginning of a text, and that it is so long."""
        answer = read_beginning(text)
        self.assertIs(type(answer), tuple)
        self.assertEqual(len(answer), 2)
        self.assertIs(type(answer[0]), list)
        self.assertEqual(values(answer[0]), values(rows))
        self.assertTrue(all([type(letter) is Letter for letter in answer[0]]))
        self.assertEqual(answer[1], length)
        self.assertIs(type(answer[1]), int)

    def assert_cut(self, text, rows, length):
        """Assert that just these letters stand whole at the beginning of a text that is not all theirs."""
        self.assert_bad(text)
        self.assert_beginning(text, rows, length)

    def test_no_letters(self):
        self.assertEqual(archive([]), "")
        self.assertEqual(read_archive(""), [])
        self.assertEqual(read_beginning(""), ([], 0))

    def test_the_text_of_two(self):
        self.assertEqual(archive(list(TWO)), TEXT_OF_TWO)
        self.assert_read(TEXT_OF_TWO, TWO)

    def test_each_letter_alone(self):
        for letter in letters() + long_letters():
            text = archive([letter])
            with self.subTest(text):
                self.assertEqual(text, "\n".join(mail_lines(letter)) + "\n")
                self.assert_read(text, [letter])

    def test_the_order_of_the_list(self):
        rows = letters() + long_letters()
        for order in (rows, rows[::-1], rows[5:] + rows[:5], rows + rows, [rows[0]] * 3):
            text = archive(order)
            self.assertEqual(text, "".join([archive([letter]) for letter in order]))
            self.assert_read(text, order)

    def test_more_than_a_thousand_letters(self):
        rows = many_letters(3000)
        text = archive(rows)
        self.assert_read(text, rows)
        self.assert_cut(text + "From: anna 1\n", rows, len(text))
        self.assert_cut(text[:-1], rows[:-1], len(archive(rows[:-1])))
        self.assert_cut("x" + text, [], 0)

    def test_header_lines_folded_in_another_way(self):
        rows = letters() + long_letters()
        for width in (1, 2, 7, 13, 59, 61, 100, 10 ** 12):
            with self.subTest(width):
                self.assert_read(folded_archive(rows, width), rows)
                self.assertNotEqual(folded_archive(rows, width), archive(rows))
        self.assertEqual(folded_archive(rows, 60), archive(rows))

    def test_letters_folded_in_different_ways(self):
        rows = letters()
        text = "".join([folded_archive([letter], width + 1) for width, letter in enumerate(rows)])
        self.assert_read(text, rows)

    def test_cut_at_each_character(self):
        rows = letters() + long_letters()[:9]
        for width in (60, 2):
            text = folded_archive(rows, width)
            ends = [len(folded_archive(rows[:many], width)) for many in range(len(rows) + 1)]
            whole = 0
            for length in range(len(text) + 1):
                if length in ends:
                    whole = ends.index(length)
                    self.assert_read(text[:length], rows[:whole])
                else:
                    self.assert_cut(text[:length], rows[:whole], ends[whole])

    def test_cut_in_front(self):
        text = archive(list(TWO))
        second = len(archive([TWO[0]]))
        for length in range(1, len(text)):
            with self.subTest(length):
                if length == second:
                    self.assert_read(text[length:], [TWO[1]])
                else:
                    self.assert_cut(text[length:], [], 0)

    def test_a_line_of_something_else(self):
        rows = letters()
        lines = archive(rows).split("\n")[:-1]
        ends = [len(archive(rows[:many])) for many in range(len(rows) + 1)]
        for at in range(len(lines) + 1):
            length = sum([len(line) + 1 for line in lines[:at]])
            whole = max([many for many, end in enumerate(ends) if end <= length])
            for line in ("something else", "", "..", "\t", "From: anna 1", "Kind: seen", "|"):
                text = "\n".join([*lines[:at], line, *lines[at:]]) + "\n"
                with self.subTest(f"{line!r} at {at}"):
                    self.assert_cut(text, rows[:whole], ends[whole])

    def test_characters_behind(self):
        rows = list(TWO)
        text = archive(rows)
        for behind in ("\n", "\n\n", ".", ".\n", " ", " \n", "\t", "x", "From: anna 1", "From: anna 1\nStamp: 1", "|\n", "\n.\n",
                       "|there\n.\n", archive(rows)[:-1], "\n" + text, " " + text, "Room: anna tea\n" + text):
            with self.subTest(repr(behind)):
                if behind == text[:-1]:
                    self.assert_cut(text + behind, rows + rows[:1], len(text) + len(archive(rows[:1])))
                else:
                    self.assert_cut(text + behind, rows, len(text))

    def test_what_is_no_archive(self):
        for text in ("\n", "\n\n", ".", ".\n", "\n.\n", " ", "\t", "x", "x\n", "From: anna 1", "From: anna 1\n", "|a\n.\n"):
            with self.subTest(repr(text)):
                self.assert_cut(text, [], 0)

    def test_a_tab_in_the_place_of_a_newline(self):
        rows = letters()
        text = archive(rows)
        ends = [len(archive(rows[:many])) for many in range(len(rows) + 1)]
        for at, sign in enumerate(text):
            if sign == "\n":
                whole = max([many for many, end in enumerate(ends) if end <= at])
                with self.subTest(at):
                    self.assert_cut(text[:at] + "\t" + text[at + 1:], rows[:whole], ends[whole])

    def test_only_a_newline_ends_a_line(self):
        for sign in ("\r", "\x0b", "\x0c", "\x1c", "\x85", "\u2028"):
            with self.subTest(repr(sign)):
                self.assert_bad(TEXT_OF_TWO.replace("\n", sign))
                self.assertEqual(read_beginning(TEXT_OF_TWO + "a" + sign)[1], len(TEXT_OF_TWO))

    def test_a_letter_that_has_no_letter_value(self):
        text = archive([TWO[0]])
        wrong = text.replace("Stamp: 5", "Stamp: 1")
        self.assert_cut(wrong, [], 0)
        self.assert_cut(text + wrong + text, TWO[:1], len(text))

    def test_a_text_that_looks_like_mail(self):
        rows = [letter_of(("say", TEXT_OF_TWO)), letter_of(("say", "\n\n.\n")), letter_of(("reply", ("anna", 1), ".\n\n."))]
        self.assert_read(archive(rows), rows)

    def test_the_list_stays_and_the_others_are_new(self):
        rows = letters()
        before, before_values = list(rows), values(rows)
        text = archive(rows)
        self.assertEqual((rows, values(rows)), (before, before_values))
        self.assertEqual(archive(rows), text)
        for read in (read_archive, lambda text: read_beginning(text)[0]):
            first, second = read(text), read(text)
            self.assertIs(type(first), list)
            self.assertIsNot(first, second)
            self.assertFalse(any([one is other for one, other in zip(first, second)]))
            first.clear()
            self.assertEqual(values(read(text)), before_values)


if __name__ == "__main__":
    unittest.main()
