"""Tests of lettersonce.folding: points 3.1 and 3.2."""

import itertools
import unittest

from lettersonce import folding
from lettersonce.errors import BadMail, RoomError
from lettersonce.folding import fold, unfold


def fold_by_the_words(line, width):
    """Fold a line in the way that the words of point 3.1 go, one index after the other."""
    lines = []
    left = line
    while len(left) > width:
        near = [index for index in range(1, width + 1) if left[index] == " "]
        far = [index for index in range(width + 1, len(left)) if left[index] == " "]
        if not near and not far:
            break
        cut = near[-1] if near else far[0]
        lines.append(left[:cut])
        left = left[cut:]
    return lines + [left]


class Fold(unittest.TestCase):
    def test_the_width(self):
        self.assertEqual(folding.WIDTH, 60)
        self.assertIs(type(folding.WIDTH), int)

    def test_lines_that_are_not_longer_than_the_width(self):
        for width in (1, 2, 5, 60, 10 ** 12):
            for line in ("", " ", "a", "a b c", " " * width if width < 100 else " ", "x" * 60, "a " * 30):
                if len(line) <= width:
                    with self.subTest(f"{line!r} to {width}"):
                        self.assertEqual(fold(line, width), [line])

    def test_lines_around_the_width(self):
        self.assertEqual(fold("one two", 7), ["one two"])
        self.assertEqual(fold("one two", 8), ["one two"])
        self.assertEqual(fold("one two", 6), ["one", " two"])
        self.assertEqual(fold("one two three", 7), ["one two", " three"])
        self.assertEqual(fold("one two three", 8), ["one two", " three"])
        self.assertEqual(fold("one two three", 6), ["one", " two", " three"])
        self.assertEqual(fold("a" * 59 + " b", 60), ["a" * 59, " b"])
        self.assertEqual(fold("a" * 60 + " b", 60), ["a" * 60, " b"])
        self.assertEqual(fold("a" * 58 + " b", 60), ["a" * 58 + " b"])
        self.assertEqual(fold("a" * 58 + " b c", 60), ["a" * 58 + " b", " c"])

    def test_a_space_far_behind_the_width(self):
        self.assertEqual(fold("a" * 61 + " b", 60), ["a" * 61, " b"])
        self.assertEqual(fold("a" * 200 + " b c", 60), ["a" * 200, " b c"])
        self.assertEqual(fold("Title: abcdefghij k", 5), ["Title:", " abcdefghij", " k"])
        self.assertEqual(fold("abcdef gh", 2), ["abcdef", " gh"])

    def test_no_space(self):
        for line in ("ab", "a" * 61, "a" * 500, "a\tb\tc"):
            for width in (1, 2, 60):
                with self.subTest(f"{line!r} to {width}"):
                    self.assertEqual(fold(line, width), [line])

    def test_a_space_in_front_is_no_place_to_cut(self):
        self.assertEqual(fold(" abc", 1), [" abc"])
        self.assertEqual(fold(" " + "a" * 80, 60), [" " + "a" * 80])
        self.assertEqual(fold(" abc def", 4), [" abc", " def"])
        self.assertEqual(fold(" abc def", 3), [" abc", " def"])

    def test_many_spaces(self):
        self.assertEqual(fold("a   b", 1), ["a", " ", " ", " b"])
        self.assertEqual(fold("a   b", 2), ["a ", " ", " b"])
        self.assertEqual(fold("a   b", 3), ["a  ", " b"])
        self.assertEqual(fold("    ", 1), [" ", " ", " ", " "])
        self.assertEqual(fold("     ", 2), ["  ", "  ", " "])
        self.assertEqual(fold("ab   ", 2), ["ab", "  ", " "])
        self.assertEqual(fold("ab   ", 4), ["ab  ", " "])
        self.assertEqual(fold(" " * 130, 60), [" " * 60, " " * 60, " " * 10])

    def test_tabs_are_no_spaces(self):
        self.assertEqual(fold("a\tb c\td", 3), ["a\tb", " c\td"])
        self.assertEqual(fold("\t\t\t\t", 1), ["\t\t\t\t"])

    def test_great_widths(self):
        self.assertEqual(fold("a b " * 5000, 10 ** 12), ["a b " * 5000])
        self.assertEqual(fold("", 10 ** 12), [""])

    def test_all_short_lines_by_the_words(self):
        for length in range(10):
            for signs in itertools.product("a ", repeat=length):
                line = "".join(signs)
                for width in range(1, 11):
                    self.assertEqual(fold(line, width), fold_by_the_words(line, width), (line, width))

    def test_longer_lines_by_the_words(self):
        words = ["", "a", "bb", "\t", "Seen:", "anna 4,", "x" * 13, "y" * 59, "z" * 60, "w" * 61, "v" * 120]
        for parts in itertools.product(words, repeat=4):
            line = " ".join(parts)
            for width in (1, 2, 13, 59, 60, 61, 10 ** 12):
                expected = fold_by_the_words(line, width) if width < 100 else [line]
                self.assertEqual(fold(line, width), expected, (line, width))

    def test_the_joined_lines_give_the_line(self):
        for line in ("", " ", "one two three", "  one  two  ", "a" * 70 + " b" * 50, "\t \t"):
            for width in (1, 2, 7, 60):
                lines = fold(line, width)
                with self.subTest(f"{line!r} to {width}"):
                    self.assertEqual("".join(lines), line)
                    self.assertTrue(all([part.startswith(" ") for part in lines[1:]]))

    def test_a_very_long_line(self):
        line = "ab " * 100000
        lines = fold(line, 60)
        self.assertEqual("".join(lines), line)
        self.assertEqual(len(fold(" " * 100000, 1)), 100000)

    def test_the_list_is_new_each_time(self):
        for line in ("short", "one two three"):
            first, second = fold(line, 7), fold(line, 7)
            self.assertIs(type(first), list)
            self.assertIsNot(first, second)
            first.append("more")
            self.assertEqual(fold(line, 7), second)


class Unfold(unittest.TestCase):
    def test_no_lines(self):
        self.assertEqual(unfold([]), [])

    def test_no_line_with_a_space_in_front(self):
        for lines in (["a"], [""], ["", ""], ["a", "b ", "c d"], ["a", "\tb"], ["|", ".", "\t a"]):
            with self.subTest(lines):
                self.assertEqual(unfold(lines), lines)

    def test_some_lines_with_a_space_in_front(self):
        self.assertEqual(unfold(["a", " b", "c"]), ["a b", "c"])
        self.assertEqual(unfold(["a", "b", " c"]), ["a", "b c"])
        self.assertEqual(unfold(["a", " b", "c", " d", "e"]), ["a b", "c d", "e"])
        self.assertEqual(unfold(["Title:", " abcdefghij", " k", "Kind: seen"]), ["Title: abcdefghij k", "Kind: seen"])

    def test_several_one_behind_the_other(self):
        self.assertEqual(unfold(["a", " b", "  c", " ", " \td ", " "]), ["a b  c  \td  "])
        self.assertEqual(unfold(["a "] + [" b "] * 1000 + ["c"]), ["a " + " b " * 1000, "c"])

    def test_empty_lines(self):
        self.assertEqual(unfold(["", " a", "", "", " "]), [" a", "", " "])
        self.assertEqual(unfold(["a", "", " b"]), ["a", " b"])

    def test_the_first_line_begins_with_a_space(self):
        for lines in ([" "], [" a"], ["  a", "b"], [" ", "b", " c"], [" a", " b"]):
            with self.subTest(lines), self.assertRaises(BadMail) as caught:
                unfold(lines)
            self.assertIs(type(caught.exception), BadMail)
            self.assertIsInstance(caught.exception, RoomError)
            self.assertIsInstance(caught.exception, ValueError)
            self.assertEqual(unfold(["a", " b"]), ["a b"])

    def test_the_list_stays_and_the_other_one_is_new(self):
        for lines in (["a", " b", "c"], ["a", "b"], [], [" a", "b"]):
            before = list(lines)
            try:
                first, second = unfold(lines), unfold(lines)
            except BadMail:
                self.assertEqual(lines, before)
                continue
            self.assertEqual(lines, before)
            self.assertIsNot(first, lines)
            self.assertIsNot(first, second)
            first.append("more")
            self.assertEqual((lines, unfold(lines)), (before, second))

    def test_folded_lines(self):
        rows = [["one two three", "", "a" * 70 + " b", "x  y   z ", "\t \t", "end"], ["", "", "a b"]]
        for lines in rows:
            for width in (1, 2, 3, 7, 60, 10 ** 12):
                with self.subTest(f"{lines} to {width}"):
                    folded = [part for line in lines for part in fold(line, width)]
                    self.assertEqual(unfold(folded), lines)

    def test_all_short_lines_by_the_words(self):
        for many in range(5):
            for lines in itertools.product(["", "a", " ", " b", "c "], repeat=many):
                expected = []
                for line in lines:
                    if line.startswith(" ") and expected:
                        expected[-1] += line
                    else:
                        expected.append(line)
                if lines and lines[0].startswith(" "):
                    self.assertRaises(BadMail, unfold, list(lines))
                else:
                    self.assertEqual(unfold(list(lines)), expected, lines)


if __name__ == "__main__":
    unittest.main()
