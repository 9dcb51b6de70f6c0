"""Tests of lettersonce.mail: points 3.4 and 3.5."""

import unittest

from lettersonce.bodies import text_of
from lettersonce.errors import BadMail, RoomError
from lettersonce.folding import fold, unfold
from lettersonce.headers import header_lines
from lettersonce.letters import Letter, is_letter
from lettersonce.mail import mail_lines, read_mail

from samples import BODIES, letter_of, letters, long_letters

FRONT = ["From: bert 2", "Stamp: 5", "Seen: anna 4, bert 2"]
LINES_WITHOUT_MEMBERS = ["From: anna 1", "Stamp: 1", "Seen: anna 1", "Kind: found", "Title: Tea"]
# The mail of the sample of each kind, written by hand.
MAIL = {
    "found": ["From: anna 1", "Stamp: 1", "Seen: anna 1", "Kind: found", "Title: Tea at five", "Members: bert, carl", "",
              "."],
    "say": FRONT + ["Kind: say", "Lines: 2", "", "|Hello", "|there", "."],
    "reply": FRONT + ["Kind: reply", "Ref: anna 3", "Lines: 2", "", "|one", "|two", "."],
    "edit": FRONT + ["Kind: edit", "Ref: bert 1", "Lines: 2", "", "|one", "|two", "."],
    "recall": FRONT + ["Kind: recall", "Ref: anna 4", "", "."],
    "mark": FRONT + ["Kind: mark", "Ref: anna 2", "Word: star", "", "."],
    "title": FRONT + ["Kind: title", "Title: Tea at six", "", "."],
    "add": FRONT + ["Kind: add", "Name: dora", "", "."],
    "cut": FRONT + ["Kind: cut", "Name: carl", "", "."],
    "hand": FRONT + ["Kind: hand", "Name: bert", "", "."],
    "seen": FRONT + ["Kind: seen", "", "."],
}
OTHER_LINES = [[], [""], ["."], [" "], ["|"], ["|more"], [" folded"], ["From: anna 1", "Stamp: 1"], MAIL["seen"],
               ["", "."], ["\t"]]
# Lines that are put among those of a mail.
MORE_LINES = ["", " ", ".", "..", " .", ". ", "|", "|more", "||", "\t", " more", "more", "Kind: seen", "Lines: 2", "From: a 1"]


def folded_mail(letter, width):
    """Return the lines of the mail of a letter with the header lines folded to a width."""
    lines = [part for line in header_lines(letter) for part in fold(line, width)]
    written = mail_lines(letter)
    return lines + written[written.index(""):]


class MailLines(unittest.TestCase):
    def test_each_kind(self):
        for kind, body in BODIES.items():
            with self.subTest(kind):
                self.assertEqual(mail_lines(letter_of(body)), MAIL[kind])

    def test_header_lines_of_60_and_61_characters(self):
        for title, expected in (
                ("t" * 53, ["Title: " + "t" * 53]), ("t" * 54, ["Title:", " " + "t" * 54]),
                ("t" * 53 + " ", ["Title: " + "t" * 53, " "]), ("t" * 60, ["Title:", " " + "t" * 60]),
                ("ten chars " * 6, ["Title: " + "ten chars " * 5 + "ten", " chars "])):
            with self.subTest(title):
                self.assertEqual(mail_lines(letter_of(("title", title))), FRONT + ["Kind: title", *expected, "", "."])

    def test_a_long_line_of_pairs(self):
        seen = tuple([(f"person{number:02d}", number) for number in range(10, 20)])
        letter = Letter("person12", 12, 30, seen, ("seen",))
        self.assertEqual(mail_lines(letter), [
            "From: person12 12", "Stamp: 30",
            "Seen: person10 10, person11 11, person12 12, person13 13,",
            " person14 14, person15 15, person16 16, person17 17,", " person18 18, person19 19", "Kind: seen", "", "."])

    def test_many_members(self):
        people = tuple([f"member{number:06d}" for number in range(5)])
        self.assertEqual(mail_lines(letter_of(("found", "Tea", people))), LINES_WITHOUT_MEMBERS + [
            "Members: member000000, member000001, member000002,", " member000003, member000004", "", "."])

    def test_the_lines_of_a_text(self):
        for text, expected in (
                ("a", ["|a"]), (".", ["|."]), ("\n", ["|", "|"]), ("a\n", ["|a", "|"]), ("\na", ["|", "|a"]),
                ("\n\n", ["|", "|", "|"]), ("a\n\nb", ["|a", "|", "|b"]), ("hello\n.", ["|hello", "|."]),
                (".\n.\n", ["|.", "|.", "|"]), ("|a\n||", ["||a", "|||"]), (" a\n  b ", ["| a", "|  b "]),
                ("a" * 400, ["|" + "a" * 400]), ("long " * 80, ["|" + "long " * 80]),
                ("From: anna 1\n\nKind: seen", ["|From: anna 1", "|", "|Kind: seen"])):
            with self.subTest(repr(text)):
                for body in (("say", text), ("reply", ("anna", 3), text), ("edit", ("anna", 3), text)):
                    lines = mail_lines(letter_of(body))
                    self.assertEqual(lines[:-len(expected) - 2], header_lines(letter_of(body)))
                    self.assertEqual(lines[-len(expected) - 2:], ["", *expected, "."])

    def test_each_part_by_the_words(self):
        for letter in letters() + long_letters():
            text = text_of(letter.body)
            expected = [part for line in header_lines(letter) for part in fold(line, 60)] + [""]
            if text is not None:
                expected += ["|" + line for line in text.split("\n")]
            with self.subTest(letter.value()):
                self.assertEqual(mail_lines(letter), expected + ["."])

    def test_the_list_is_new_each_time(self):
        for letter in letters():
            before = letter.value()
            first, second = mail_lines(letter), mail_lines(letter)
            first.clear()
            self.assertEqual(mail_lines(letter), second)
            self.assertEqual(letter.value(), before)


class ReadMail(unittest.TestCase):
    def assert_read(self, lines, at, letter, end):
        """Assert that this letter is read up to the line before the index end, and that the list stays."""
        before = list(lines)
        answer = read_mail(lines, at)
        self.assertIs(type(answer), tuple)
        read, index = answer
        self.assertIs(type(read), Letter)
        self.assertEqual((read.value(), index), (letter.value(), end))
        self.assertEqual(lines, before)

    def assert_bad(self, lines, at):
        """Assert that no letter is read, that the list stays, and that a good one is read as before."""
        before = list(lines)
        with self.assertRaises(BadMail) as caught:
            read_mail(lines, at)
        self.assertIs(type(caught.exception), BadMail)
        self.assertIsInstance(caught.exception, RoomError)
        self.assertEqual(lines, before)
        self.assert_read(list(MAIL["say"]), 0, letter_of(BODIES["say"]), len(MAIL["say"]))

    def assert_just_so_or_bad(self, lines, at):
        """Assert that the lines are refused, or that they are the mail of the letter that is read."""
        before = list(lines)
        try:
            letter, end = read_mail(lines, at)
        except BadMail:
            letter = None
        self.assertEqual(lines, before)
        if letter is not None:
            self.assertIs(is_letter(letter.value()), True)
            gap = lines.index("", at)
            self.assertEqual(unfold(lines[at:gap]), header_lines(letter))
            written = mail_lines(letter)
            self.assertEqual(lines[gap:end], written[written.index(""):])

    def test_each_letter_is_read_as_it_was(self):
        for letter in letters() + long_letters():
            lines = mail_lines(letter)
            with self.subTest(lines):
                self.assert_read(lines, 0, letter, len(lines))

    def test_the_lines_that_are_written_by_hand(self):
        for kind, body in BODIES.items():
            with self.subTest(kind):
                self.assert_read(list(MAIL[kind]), 0, letter_of(body), len(MAIL[kind]))

    def test_two_readings_give_two_letters(self):
        lines = list(MAIL["say"])
        self.assertIsNot(read_mail(lines, 0)[0], read_mail(lines, 0)[0])

    def test_other_lines_before_and_behind(self):
        for letter in letters() + long_letters():
            for before in OTHER_LINES:
                for behind in OTHER_LINES:
                    lines = before + mail_lines(letter) + behind
                    with self.subTest(lines):
                        self.assert_read(lines, len(before), letter, len(lines) - len(behind))

    def test_header_lines_folded_to_any_width(self):
        for letter in letters() + long_letters():
            for width in (1, 2, 5, 13, 30, 59, 60, 61, 100, 10 ** 12):
                lines = ["", *folded_mail(letter, width), "From: nobody"]
                with self.subTest(f"{lines} at {width}"):
                    self.assert_read(lines, 1, letter, len(lines) - 1)

    def test_one_header_line_folded_at_one_space(self):
        for kind, body in BODIES.items():
            for at, line in enumerate(MAIL[kind][:MAIL[kind].index("")]):
                for place, sign in enumerate(line):
                    if sign == " ":
                        lines = MAIL[kind][:at] + [line[:place], line[place:]] + MAIL[kind][at + 1:]
                        with self.subTest(lines):
                            self.assert_read(lines, 0, letter_of(body), len(lines))

    def test_a_line_that_is_folded_where_no_space_is(self):
        for kind in BODIES:
            for at, line in enumerate(MAIL[kind][:MAIL[kind].index("")]):
                for place in range(1, len(line)):
                    if line[place] != " ":
                        with self.subTest(f"{kind}: {line} cut at {place}"):
                            self.assert_bad(MAIL[kind][:at] + [line[:place], line[place:]] + MAIL[kind][at + 1:], 0)

    def test_a_folded_title_with_many_spaces(self):
        letter = letter_of(("title", "a   b  "))
        front = FRONT + ["Kind: title"]
        for parts in (["Title: a   b  "], ["Title:", " a   b  "], ["Title: a", " ", " ", " b", " ", " "],
                      ["Title: a ", "  b ", " "], ["Title: a  ", " b  "], ["Title:", " a", "   b  "]):
            lines = front + parts + ["", "."]
            with self.subTest(parts):
                self.assert_read(lines, 0, letter, len(lines))

    def test_an_empty_title_folded(self):
        lines = FRONT + ["Kind: title", "Title:", " ", "", "."]
        self.assert_read(lines, 0, letter_of(("title", "")), len(lines))
        lines = LINES_WITHOUT_MEMBERS + ["Members:", " ", "", "."]
        self.assert_read(lines, 0, letter_of(("found", "Tea", ())), len(lines))
        self.assert_bad(FRONT + ["Kind: title", "Title:", "", "."], 0)
        self.assert_bad(LINES_WITHOUT_MEMBERS + ["Members:", "", "."], 0)

    def test_the_first_line_begins_with_a_space(self):
        for kind in BODIES:
            self.assert_bad([" " + MAIL[kind][0]] + MAIL[kind][1:], 0)
            self.assert_bad(["From:"] + [MAIL[kind][0][5:]] + MAIL[kind][1:], 1)

    def test_at_another_index(self):
        for kind, body in BODIES.items():
            lines = [*MAIL[kind], *MAIL["title"]]
            for at in range(1, len(lines) + 1):
                with self.subTest(f"{kind} at {at}"):
                    if at == len(MAIL[kind]):
                        self.assert_read(lines, at, letter_of(BODIES["title"]), len(lines))
                    else:
                        self.assert_bad(lines, at)
            self.assert_read(lines, 0, letter_of(body), len(MAIL[kind]))

    def test_an_empty_list_and_the_end(self):
        self.assert_bad([], 0)
        for kind in BODIES:
            self.assert_bad(list(MAIL[kind]), len(MAIL[kind]))
        for lines in ([""], ["."], ["", ""], ["", "."], ["|", "."], [" "], ["", "|", "."]):
            for at in range(len(lines) + 1):
                with self.subTest(f"{lines} at {at}"):
                    self.assert_bad(lines, at)

    def test_the_list_ends_before(self):
        for kind in BODIES:
            for many in range(len(MAIL[kind])):
                with self.subTest(f"{kind}, {many} lines"):
                    self.assert_bad(MAIL[kind][:many], 0)

    def test_a_line_is_missing(self):
        for kind in BODIES:
            for at in range(len(MAIL[kind])):
                for behind in ([], [""], ["."], MAIL["seen"]):
                    if at == len(MAIL[kind]) - 1 and behind == ["."]:
                        continue
                    with self.subTest(f"{kind} without line {at}, then {behind}"):
                        self.assert_bad(MAIL[kind][:at] + MAIL[kind][at + 1:] + behind, 0)

    def test_a_line_stands_twice(self):
        for kind, body in BODIES.items():
            lines = MAIL[kind]
            for at, line in enumerate(lines):
                twice = lines[:at] + [line] + lines[at:]
                with self.subTest(f"{kind}: {line} twice"):
                    if line == ".":
                        self.assert_read(twice, 0, letter_of(body), len(lines))
                    else:
                        self.assert_bad(twice, 0)

    def test_a_line_added_anywhere(self):
        for kind in BODIES:
            for line in MORE_LINES:
                for at in range(len(MAIL[kind]) + 1):
                    self.assert_just_so_or_bad(MAIL[kind][:at] + [line] + MAIL[kind][at:], 0)

    def test_a_line_changed_anywhere(self):
        for kind in BODIES:
            for line in MORE_LINES:
                for at in range(len(MAIL[kind])):
                    self.assert_just_so_or_bad(MAIL[kind][:at] + [line] + MAIL[kind][at + 1:], 0)

    def test_lines_that_are_refused(self):
        say, gap = MAIL["say"], MAIL["say"].index("")
        for lines in (
                say[:gap] + say[gap + 1:], say[:gap] + [" "] + say[gap + 1:], say[:gap] + ["\t"] + say[gap + 1:],
                say[:gap] + ["", ""] + say[gap + 1:], say[:gap + 1] + ["Hello", "|there", "."],
                say[:gap + 1] + ["|Hello", "there", "."], say[:gap + 1] + ["|Hello", "", "|there", "."],
                say[:gap + 1] + ["|Hello", "."], say[:gap + 1] + ["|Hello", "|there", "|", "."],
                say[:gap + 1] + ["|Hello", "|there", ".."], say[:gap + 1] + ["|Hello", "|there", ". "],
                say[:gap + 1] + ["|Hello", "|there", " ."], say[:gap + 1] + ["|Hello", "|there", "", "."],
                say[:gap + 1] + ["|Hello", "|there", ""], say[:gap + 1] + ["|Hello", " there", "|there", "."],
                say[:gap + 1] + ["|Hello", " |there", "."], say[:gap + 1] + ["|Hello", "|the\tre", "."],
                say[:gap + 1] + ["."], say[:gap + 1] + ["|", "."], say[:gap + 1] + ["|Hello\tthere", "."],
                say[:gap + 1] + ["|Hello", "|" + "t" * 395, "."], MAIL["seen"][:-1] + ["|", "."],
                MAIL["title"][:-1] + ["|Tea at six", "."], MAIL["found"][:-2] + ["."], MAIL["add"][:-1] + ["|dora", "."]):
            with self.subTest(lines):
                self.assert_bad(lines, 0)

    def test_texts_of_empty_lines(self):
        lines = FRONT + ["Kind: say", "Lines: 3", "", "|", "|", "|", "."]
        self.assert_read(lines, 0, letter_of(("say", "\n\n")), len(lines))
        self.assert_bad(FRONT + ["Kind: say", "Lines: 1", "", "|", "."], 0)
        self.assert_bad(FRONT + ["Kind: say", "Lines: 0", "", "."], 0)
        self.assert_read(FRONT + ["Kind: say", "Lines: 1", "", "|.", ".", "."], 0, letter_of(("say", ".")), 8)

    def test_a_letter_that_has_no_letter_value(self):
        for lines in (["From: bert 2", "Stamp: 1", "Seen: bert 2", "Kind: seen", "", "."],
                      ["From: bert 1", "Stamp: 1", "Seen: bert 1", "Kind: seen", "", "."],
                      ["From: bert 2", "Stamp: 5", "Seen: anna 4", "Kind: seen", "", "."],
                      ["From: bert 2", "Stamp: 5", "Seen: bert 2, anna 4", "Kind: seen", "", "."],
                      LINES_WITHOUT_MEMBERS + ["Members: anna", "", "."], LINES_WITHOUT_MEMBERS + ["Members: c, b", "", "."]):
            with self.subTest(lines):
                self.assert_bad(lines, 0)

    def test_a_very_long_list(self):
        lines = MAIL["say"] + ["no empty line"] * 100000
        self.assert_read(lines, 0, letter_of(BODIES["say"]), len(MAIL["say"]))
        self.assert_bad(lines, len(MAIL["say"]))


if __name__ == "__main__":
    unittest.main()
