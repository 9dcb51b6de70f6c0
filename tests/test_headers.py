"""Tests of lettersonce.headers: point 3.3."""

import unittest

from lettersonce.bodies import text_of
from lettersonce.errors import BadMail, RoomError
from lettersonce.headers import header_lines, read_headers
from lettersonce.letters import Letter, is_letter

from samples import BODIES, GREATEST, letter_of, letters, long_letters

FRONT = ["From: bert 2", "Stamp: 5", "Seen: anna 4, bert 2"]
# The header lines of the sample of each kind, written by hand.
LINES = {
    "found": ["From: anna 1", "Stamp: 1", "Seen: anna 1", "Kind: found", "Title: Tea at five", "Members: bert, carl"],
    "say": FRONT + ["Kind: say", "Lines: 2"],
    "reply": FRONT + ["Kind: reply", "Ref: anna 3", "Lines: 2"],
    "edit": FRONT + ["Kind: edit", "Ref: bert 1", "Lines: 2"],
    "recall": FRONT + ["Kind: recall", "Ref: anna 4"],
    "mark": FRONT + ["Kind: mark", "Ref: anna 2", "Word: star"],
    "title": FRONT + ["Kind: title", "Title: Tea at six"],
    "add": FRONT + ["Kind: add", "Name: dora"],
    "cut": FRONT + ["Kind: cut", "Name: carl"],
    "hand": FRONT + ["Kind: hand", "Name: bert"],
    "seen": FRONT + ["Kind: seen"],
}
# Signs that are put into the lines at each place, and lines that are put among them.
SIGNS = [" ", "  ", ",", ", ", "0", "1", "-", "+", ":", "a", "A", "_", "|", ".", "\t", "~", "~ 1"]
MORE_LINES = ["", " ", ".", "|Hello", "|there", "Kind: seen", "Lines: 2", "Lines: 1", "Ref: anna 3", "Name: bert",
              "Title: Tea", "Title: ", "Members: ", "Word: star", "From: bert 2", "something else"]


class HeaderLines(unittest.TestCase):
    def test_each_kind(self):
        for kind, body in BODIES.items():
            with self.subTest(kind):
                self.assertEqual(header_lines(letter_of(body)), LINES[kind])

    def test_a_founding_letter_without_members(self):
        self.assertEqual(header_lines(letter_of(("found", "Tea", ()))), LINES["found"][:4] + ["Title: Tea", "Members: "])
        self.assertEqual(header_lines(letter_of(("found", "", ("bert",)))),
                         LINES["found"][:4] + ["Title: ", "Members: bert"])
        self.assertEqual(header_lines(letter_of(("found", "", ()))), LINES["found"][:4] + ["Title: ", "Members: "])

    def test_an_empty_title(self):
        self.assertEqual(header_lines(letter_of(("title", ""))), FRONT + ["Kind: title", "Title: "])

    def test_a_title_of_any_characters(self):
        for title in (" ", "  a  b ", "t" * 60, ", : | . 1", "Kind: seen"):
            with self.subTest(title):
                self.assertEqual(header_lines(letter_of(("title", title))), FRONT + ["Kind: title", "Title: " + title])

    def test_the_number_of_lines(self):
        for text, count in (("a", 1), ("\n", 2), ("a\n", 2), ("\na", 2), ("a\n\nb", 3), ("a\tb", 1), ("\n" * 400, 401),
                            ("a" * 400, 1), ("a\n" * 9, 10)):
            with self.subTest(repr(text)):
                self.assertEqual(header_lines(letter_of(("say", text)))[4:], [f"Lines: {count}"])
                self.assertEqual(header_lines(letter_of(("reply", ("a", 1), text)))[4:], ["Ref: a 1", f"Lines: {count}"])
                self.assertEqual(header_lines(letter_of(("edit", ("a", 1), text)))[4:], ["Ref: a 1", f"Lines: {count}"])

    def test_many_pairs_are_not_folded(self):
        seen = tuple([(f"a{number:03d}", number) for number in range(1, 100)]) + (("bert", 2),)
        written = "Seen: " + "".join([f"a{number:03d} {number}, " for number in range(1, 100)]) + "bert 2"
        self.assertEqual(header_lines(Letter("bert", 2, 5, seen, ("seen",))), [*FRONT[:2], written, "Kind: seen"])

    def test_great_numbers(self):
        letter = Letter("bert", GREATEST, GREATEST, (("bert", GREATEST),), ("recall", ("anna", GREATEST)))
        digits = "1000000000000000000"
        self.assertEqual(header_lines(letter), [f"From: bert {digits}", f"Stamp: {digits}", f"Seen: bert {digits}",
                                                "Kind: recall", f"Ref: anna {digits}"])

    def test_the_list_is_new_each_time(self):
        for letter in letters():
            before = letter.value()
            first, second = header_lines(letter), header_lines(letter)
            self.assertIs(type(first), list)
            first.clear()
            self.assertEqual(header_lines(letter), second)
            self.assertEqual(letter.value(), before)


class ReadHeaders(unittest.TestCase):
    def assert_bad(self, lines, text):
        """Assert that there is no letter, that the list stays, and that good lines are read as before."""
        before = list(lines)
        with self.assertRaises(BadMail) as caught:
            read_headers(lines, text)
        self.assertIs(type(caught.exception), BadMail)
        self.assertIsInstance(caught.exception, RoomError)
        self.assertEqual(lines, before)
        self.assertEqual(read_headers(list(LINES["seen"]), None).value()[4], ("seen",))

    def assert_just_so_or_bad(self, lines, text):
        """Assert that the lines are refused, or that just they are written for the letter that they give."""
        before = list(lines)
        try:
            letter = read_headers(lines, text)
        except BadMail:
            letter = None
        self.assertEqual(lines, before)
        if letter is not None:
            self.assertIs(is_letter(letter.value()), True)
            self.assertEqual(header_lines(letter), lines)
            self.assertEqual(text_of(letter.body), text)

    def test_each_letter_is_read_as_it_was(self):
        for letter in letters() + long_letters():
            lines = header_lines(letter)
            with self.subTest(lines):
                read = read_headers(lines, text_of(letter.body))
                self.assertIs(type(read), Letter)
                self.assertEqual(read.value(), letter.value())
                self.assertEqual((read.ref, read.key), (letter.ref, letter.key))

    def test_the_lines_that_are_written_by_hand(self):
        for kind, body in BODIES.items():
            with self.subTest(kind):
                lines = list(LINES[kind])
                first, second = read_headers(lines, text_of(body)), read_headers(lines, text_of(body))
                self.assertEqual(first.value(), letter_of(body).value())
                self.assertIsNot(first, second)
                self.assertEqual(lines, LINES[kind])

    def test_no_lines(self):
        for text in (None, "", "a"):
            self.assert_bad([], text)

    def test_a_line_is_missing(self):
        for kind, lines in LINES.items():
            for at in range(len(lines)):
                with self.subTest(f"{kind} without {lines[at]}"):
                    self.assert_bad(lines[:at] + lines[at + 1:], text_of(BODIES[kind]))
                    self.assert_bad(lines[:at], text_of(BODIES[kind]))

    def test_a_line_stands_twice(self):
        for kind, lines in LINES.items():
            for line in lines:
                for at in range(len(lines) + 1):
                    with self.subTest(f"{kind}: {line} at {at}, too"):
                        self.assert_bad(lines[:at] + [line] + lines[at:], text_of(BODIES[kind]))

    def test_a_line_stands_at_another_place(self):
        for kind, lines in LINES.items():
            for at in range(len(lines)):
                for to in range(len(lines)):
                    moved = lines[:at] + lines[at + 1:]
                    moved.insert(to, lines[at])
                    if at != to:
                        with self.subTest(f"{kind}: {lines[at]} at {to}"):
                            self.assert_bad(moved, text_of(BODIES[kind]))

    def test_a_line_of_another_kind(self):
        for kind, lines in LINES.items():
            for other, others in LINES.items():
                mixed = lines[:3] + ["Kind: " + other] + lines[4:]
                alike = [line.partition(" ")[0] for line in others] == [line.partition(" ")[0] for line in mixed]
                if not alike:
                    with self.subTest(f"the lines of {kind} as {other}"):
                        self.assert_bad(mixed, text_of(BODIES[kind]))
                self.assert_just_so_or_bad(mixed, text_of(BODIES[kind]))

    def test_a_line_more(self):
        for kind, lines in LINES.items():
            for line in MORE_LINES:
                for at in range(len(lines) + 1):
                    with self.subTest(f"{kind}: {line} at {at}"):
                        self.assert_bad(lines[:at] + [line] + lines[at:], text_of(BODIES[kind]))

    def test_a_space_too_many_or_too_few(self):
        for kind, lines in LINES.items():
            for at, line in enumerate(lines):
                if line.startswith("Title: "):
                    continue
                for place in range(len(line) + 1):
                    with self.subTest(f"{kind}: {line} with a space at {place}"):
                        changed = line[:place] + " " + line[place:]
                        self.assert_bad(lines[:at] + [changed] + lines[at + 1:], text_of(BODIES[kind]))
                for place in range(len(line)):
                    if line[place] == " ":
                        with self.subTest(f"{kind}: {line} without the space at {place}"):
                            changed = line[:place] + line[place + 1:]
                            self.assert_bad(lines[:at] + [changed] + lines[at + 1:], text_of(BODIES[kind]))

    def test_the_word_in_front_of_a_title(self):
        for kind in ("found", "title"):
            for line in ("Title:Tea", "Title", "Title:", "title: Tea", "TITLE: Tea", " Title: Tea", "Title : Tea",
                         "Titles: Tea", "Tea", ": Tea", "Title; Tea", "Name: Tea"):
                with self.subTest(f"{kind}: {line}"):
                    self.assert_bad(LINES[kind][:4] + [line] + LINES[kind][5:], None)

    def test_a_title_keeps_its_spaces(self):
        for title in (" Tea", "Tea ", "  ", "a  b", ": ", "Title: Tea"):
            letter = read_headers(FRONT + ["Kind: title", "Title: " + title], None)
            self.assertEqual(letter.body, ("title", title))

    def test_small_letters_in_front_and_something_behind(self):
        for kind, lines in LINES.items():
            for at, line in enumerate(lines):
                changes = [line[0].lower() + line[1:], line.upper(), line.lower(), line.replace(":", "", 1),
                           line.replace(":", "::", 1), line.replace(":", " :", 1), "X" + line, line[1:]]
                if not line.startswith("Title: "):
                    changes += [line + behind for behind in (" ", ",", ", ", ".", "|", "\t", " 1", ", a", "-", "_", "~")]
                for changed in changes:
                    with self.subTest(f"{kind}: {changed}"):
                        self.assert_bad(lines[:at] + [changed] + lines[at + 1:], text_of(BODIES[kind]))

    def test_a_number_that_is_not_written_so(self):
        changes = ["0{}", "00{}", "+{}", "-{}", " {}", "{}.", "{}.0", "{}_0", "0x{}", "{}e0", "", "0", "00", "x", "one",
                   "{}a", "\u0661", "1000000000000000001", "9999999999999999999", "01000000000000000000", "1" + "0" * 30,
                   "9" * 5000]
        for kind, lines in LINES.items():
            for at, line in enumerate(lines):
                words = line.split(" ")
                for place, word in enumerate(words):
                    digits = word.rstrip(",")
                    if not digits.isdigit():
                        continue
                    for change in changes:
                        changed = words[:place] + [change.replace("{}", digits) + word[len(digits):]] + words[place + 1:]
                        with self.subTest(f"{kind}: {changed}"):
                            self.assert_bad(lines[:at] + [" ".join(changed)] + lines[at + 1:], text_of(BODIES[kind]))

    def test_the_text_is_missing_or_another(self):
        for kind in ("say", "reply", "edit"):
            text = text_of(BODIES[kind])
            for wrong in (None, "", text + "\n", "\n" + text, text.replace("\n", ""), text.replace("\n", "\n\n"), "\n\n",
                          "a", "a" * 401, "a" * 400 + "\n", "a\n\tb", "\t\n", "a\n\u00e9"):
                with self.subTest(f"{kind} with {wrong!r}"):
                    self.assert_bad(list(LINES[kind]), wrong)

    def test_another_text_of_as_many_lines(self):
        for text in ("\n", "x\n", "\ny", ".\n.", "a" * 398 + "\nb"):
            self.assertEqual(read_headers(LINES["say"], text).body, ("say", text))
            self.assertEqual(read_headers(LINES["reply"], text).body, ("reply", ("anna", 3), text))
            self.assertEqual(read_headers(LINES["edit"], text).body, ("edit", ("bert", 1), text))

    def test_a_wrong_number_of_lines(self):
        for kind in ("say", "reply", "edit"):
            for count in ("1", "3", "0", "", "22", "two"):
                with self.subTest(f"{kind} with {count}"):
                    self.assert_bad(LINES[kind][:-1] + ["Lines: " + count], text_of(BODIES[kind]))

    def test_a_text_for_a_kind_that_has_none(self):
        for kind, lines in LINES.items():
            if kind not in ("say", "reply", "edit"):
                for text in ("", "a", "one\ntwo", "\n"):
                    with self.subTest(f"{kind} with {text!r}"):
                        self.assert_bad(list(lines), text)

    def test_lines_that_are_not_those_of_a_letter_value(self):
        seen = ["Seen: bert 2", "Kind: seen"]
        for lines in (
                ["From: bert 2", "Stamp: 1", *seen], ["From: bert 1", "Stamp: 5", *seen], ["From: bert 3", "Stamp: 5", *seen],
                ["From: anna 2", "Stamp: 5", *seen], ["From: Bert 2", "Stamp: 5", "Seen: Bert 2", "Kind: seen"],
                ["From: bert 1", "Stamp: 1", "Seen: bert 1", "Kind: seen"],
                [*FRONT[:2], "Seen: bert 2, anna 4", "Kind: seen"], [*FRONT[:2], "Seen: bert 2, bert 2", "Kind: seen"],
                [*FRONT[:2], "Seen: anna 4", "Kind: seen"], [*FRONT[:2], "Seen: ", "Kind: seen"],
                [*FRONT[:2], "Seen: bert 1, bert 2", "Kind: seen"], [*FRONT, "Kind: shout"], [*FRONT, "Kind: "],
                [*FRONT, "Kind: Seen"], [*FRONT, "Kind: found", "Title: Tea", "Members: "],
                [*LINES["found"][:4], "Title: Tea", "Members: carl, bert"],
                [*LINES["found"][:4], "Title: Tea", "Members: bert, bert"],
                [*LINES["found"][:4], "Title: Tea", "Members: anna"], [*LINES["found"][:4], "Title: Tea", "Members: Bert"],
                [*LINES["found"][:4], "Title: Tea", "Members: bert,carl"], [*LINES["found"][:4], "Title: Tea", "Members:"],
                [*LINES["found"][:4], "Title: Tea", "Members: bert,"], [*LINES["found"][:4], "Title: Tea", "Members: , bert"],
                [*LINES["found"][:4], "Title: Tea", "Members: " + ", ".join([f"m{at:02d}" for at in range(16)])],
                [*LINES["found"][:4], "Title: " + "t" * 61, "Members: "], [*FRONT, "Kind: title", "Title: " + "t" * 61],
                [*FRONT, "Kind: title", "Title: a\tb"], [*FRONT, "Kind: add", "Name: "], [*FRONT, "Kind: add", "Name: Bert"],
                [*FRONT, "Kind: add", "Name: " + "n" * 13], [*FRONT, "Kind: cut", "Name: be rt"],
                [*FRONT, "Kind: hand", "Name: bert 2"], [*FRONT, "Kind: recall", "Ref: anna"],
                [*FRONT, "Kind: recall", "Ref: anna 1 1"], [*FRONT, "Kind: recall", "Ref: 1 anna"],
                [*FRONT, "Kind: recall", "Ref: anna 1, bert 1"], [*FRONT, "Kind: recall", "Ref: "],
                [*FRONT, "Kind: mark", "Ref: anna 1", "Word: "], [*FRONT, "Kind: mark", "Ref: anna 1", "Word: Star"]):
            with self.subTest(lines):
                self.assert_bad(lines, None)

    def test_a_sign_put_in_anywhere(self):
        for kind, lines in LINES.items():
            for at, line in enumerate(lines):
                for sign in SIGNS:
                    for place in range(len(line) + 1):
                        changed = line[:place] + sign + line[place:]
                        self.assert_just_so_or_bad(lines[:at] + [changed] + lines[at + 1:], text_of(BODIES[kind]))

    def test_a_sign_taken_away_or_changed_anywhere(self):
        for kind, lines in LINES.items():
            for at, line in enumerate(lines):
                for sign in ["", *SIGNS]:
                    for place in range(len(line)):
                        changed = line[:place] + sign + line[place + 1:]
                        self.assert_just_so_or_bad(lines[:at] + [changed] + lines[at + 1:], text_of(BODIES[kind]))

    def test_lines_of_any_strings(self):
        for many in range(1, 8):
            for line in (*MORE_LINES, "Kind: ", "Kind", ": ", ":", "\t", "%", "{}"):
                with self.subTest(f"{many} times {line!r}"):
                    self.assert_bad([line] * many, None)
                    self.assert_bad([line] * many, "a")


if __name__ == "__main__":
    unittest.main()
