"""Tests of lettersonce.search: point 10.5."""

import random
import re
import time
import unittest

from lettersonce.board import board_of
from lettersonce.search import Index, plain_find, words_of

from boards import Writer, board_state, some_letters

TEA, MILK = ("anna", "tea"), ("anna", "milk")


def board_of_texts(*texts):
    """Return a board with these texts, by anna, numbered from 2 on."""
    writer = Writer("bert")
    for text in texts:
        writer.write("anna", "say", text)
    return writer.board()


class Words(unittest.TestCase):
    def assert_words(self, text, expected):
        answer = words_of(text)
        self.assertEqual((answer, type(answer)), (expected, list))

    def test_no_text(self):
        self.assert_words("", [])

    def test_signs_alone(self):
        for text in (" ", "!?", "...\n\n", "\t", "@ # - _", "".join([chr(code) for code in range(32, 48)])):
            self.assert_words(text, [])

    def test_words(self):
        self.assert_words("Tea at 4, tea!", ["4", "at", "tea"])
        self.assert_words("hello", ["hello"])
        self.assert_words("b a c", ["a", "b", "c"])
        self.assert_words("x", ["x"])

    def test_capital_letters(self):
        self.assert_words("TEA Tea tEa tea", ["tea"])
        self.assert_words("ABCDEFGHIJKLMNOPQRSTUVWXYZ", ["abcdefghijklmnopqrstuvwxyz"])

    def test_digits(self):
        self.assert_words("4pm 4 44 p4m 0123456789", ["0123456789", "4", "44", "4pm", "p4m"])
        self.assert_words("10 9 1", ["1", "10", "9"])

    def test_newlines_and_tabs(self):
        self.assert_words("one\ntwo\tthree\n\nfour\t", ["four", "one", "three", "two"])

    def test_each_other_character_parts_words(self):
        for code in list(range(32, 127)) + [9, 10]:
            sign = chr(code)
            if sign.isalnum():
                self.assert_words(f"a{sign}b", [f"a{sign.lower()}b"])
            else:
                self.assert_words(f"b{sign}a", ["a", "b"])
                self.assert_words(f"{sign}a{sign}{sign}", ["a"])

    def test_a_sign_beyond_ascii_that_turns_into_a_letter_parts_words(self):
        self.assert_words("\u0130x", ["x"])
        self.assert_words("x\u0130", ["x"])
        self.assert_words("a\u212ab", ["a", "b"])
        self.assert_words("TEA\u212aAT\u01304", ["4", "at", "tea"])
        self.assert_words("\u212a \u0130", [])

    def test_every_sign_beyond_the_letters_and_digits_parts_words(self):
        signs = [chr(code) for code in range(0x110000) if not (code < 128 and chr(code).isalnum())]
        self.assertEqual(len(signs), 0x110000 - 62)
        self.assert_words("".join(signs), [])
        self.assert_words("a".join(signs), ["a"])
        self.assert_words("B".join(signs), ["b"])

    def test_a_word_that_stands_twice(self):
        self.assert_words("one two one ONE two", ["one", "two"])

    def test_against_an_expression(self):
        chance = random.Random(2)
        for _ in range(500):
            text = "".join([chr(chance.choice([chance.randint(32, 126), 9, 10, chance.randint(97, 122)])) for _ in range(40)])
            self.assert_words(text, sorted(set(re.findall("[a-z0-9]+", text.lower()))))

    def test_the_argument_by_name(self):
        self.assertEqual(words_of(text="a"), ["a"])


class Finding(unittest.TestCase):
    def assert_finds(self, boards, query, expected):
        """Assert that both ways find just these, and that the list of boards stays."""
        before = list(boards)
        for answer in (Index(boards).find(query), plain_find(boards, query)):
            self.assertEqual((answer, type(answer)), (expected, list), query)
            self.assertEqual({type(pair) for pair in answer} - {tuple}, set())
        self.assertEqual(boards, before)

    def setUp(self):
        self.board = board_of_texts("Tea at four", "tea, or Coffee?", "at FOUR: tea and tea", "teapot", "-", "milk\nat\nnoon 4")
        self.boards = [(TEA, self.board)]

    def found(self, *numbers, room=TEA):
        return [(room, ("anna", number)) for number in numbers]

    def test_one_word(self):
        self.assert_finds(self.boards, "tea", self.found(2, 3, 4))
        self.assert_finds(self.boards, "at", self.found(2, 4, 7))
        self.assert_finds(self.boards, "teapot", self.found(5))
        self.assert_finds(self.boards, "noon", self.found(7))
        self.assert_finds(self.boards, "4", self.found(7))

    def test_several_words(self):
        self.assert_finds(self.boards, "tea at", self.found(2, 4))
        self.assert_finds(self.boards, "tea coffee", self.found(3))
        self.assert_finds(self.boards, "tea at four and", self.found(4))
        self.assert_finds(self.boards, "tea milk", [])
        self.assert_finds(self.boards, "tea nothing", [])

    def test_words_in_another_order_and_written_otherwise(self):
        for query in ("four at tea", "FOUR, Tea!\nat", "tea tea at four at", "at\ttea four"):
            self.assert_finds(self.boards, query, self.found(2, 4))

    def test_a_word_that_is_only_a_part_of_one(self):
        for query in ("te", "ea", "pot", "teapots", "fou", "our", "t", "tea te", "at noo"):
            self.assert_finds(self.boards, query, [])

    def test_queries_without_words(self):
        for query in ("", " ", "\n\t", "?!", "-", ", ."):
            self.assert_finds(self.boards, query, [])
            self.assert_finds([], query, [])

    def test_queries_with_signs_beyond_ascii(self):
        boards = [(TEA, board_of_texts("k i", "tea k", "kit"))]
        for query in ("\u212a", "\u0130", "\u212a\u0130", "\u212ait", "tea\u212ai"):
            self.assert_finds(boards, query, [])
        self.assert_finds(boards, "tea\u212ak", self.found(3))
        self.assert_finds(boards, "\u212ak", self.found(2, 3))

    def test_no_boards_and_boards_without_items(self):
        self.assert_finds([], "tea", [])
        self.assert_finds([(TEA, board_of([])), (MILK, Writer("bert", title="tea").board())], "tea", [])

    def test_recalled_items(self):
        writer = Writer("bert")
        gone = writer.write("anna", "say", "tea")
        kept = writer.write("anna", "reply", gone, "tea too")
        writer.write("anna", "recall", gone)
        self.assert_finds([(TEA, writer.board())], "tea", [(TEA, kept)])
        writer.write("anna", "recall", kept)
        self.assert_finds([(TEA, writer.board())], "tea", [])

    def test_edited_items(self):
        writer = Writer("bert")
        ref = writer.write("anna", "say", "tea at four")
        writer.write("anna", "edit", ref, "coffee at five")
        for query, expected in (("tea", []), ("four", []), ("coffee", [(TEA, ref)]), ("five at", [(TEA, ref)]), ("tea coffee", [])):
            self.assert_finds([(TEA, writer.board())], query, expected)

    def test_titles_marks_and_names_are_not_looked_at(self):
        writer = Writer("bert", title="tea")
        ref = writer.write("anna", "say", "hello")
        writer.write("bert", "mark", ref, "tea")
        writer.write("bert", "title", "tea")
        writer.write("anna", "add", "tea")
        self.assert_finds([(TEA, writer.board())], "tea", [])
        self.assert_finds([(TEA, writer.board())], "anna", [])

    def test_several_boards(self):
        other = board_of_texts("coffee", "some tea", "Tea")
        self.assert_finds([(TEA, self.board), (MILK, other)], "tea", self.found(2, 3, 4) + self.found(3, 4, room=MILK))
        self.assert_finds([(MILK, other), (TEA, self.board)], "tea", self.found(3, 4, room=MILK) + self.found(2, 3, 4))
        self.assert_finds([(("zoe", "a"), other), (("anna", "b"), other)], "coffee",
                          self.found(2, room=("zoe", "a")) + self.found(2, room=("anna", "b")))

    def test_one_board_twice(self):
        self.assert_finds([(TEA, self.board)] * 2, "tea", self.found(2, 3, 4) * 2)
        self.assert_finds([(TEA, self.board), (MILK, self.board), (TEA, self.board)], "tea at",
                          self.found(2, 4) + self.found(2, 4, room=MILK) + self.found(2, 4))

    def test_one_room_twice(self):
        other = board_of_texts("tea", "milk", "tea again")
        self.assert_finds([(TEA, self.board), (TEA, other)], "tea", self.found(2, 3, 4) + self.found(2, 4))
        self.assert_finds([(TEA, self.board), (TEA, other)], "again", self.found(4))

    def test_items_of_a_board_stand_in_its_order(self):
        writer = Writer("bert")
        refs = [writer.write("zoe", "say", "tea one"), writer.write("bert", "say", "tea two"), writer.write("anna", "say", "one tea"),
                writer.write("bert", "reply", ("zoe", 1), "tea one two")]
        boards = [(TEA, writer.board())]
        self.assert_finds(boards, "tea", [(TEA, ref) for ref in refs])
        self.assert_finds(boards, "one tea", [(TEA, ref) for ref in (refs[0], refs[2], refs[3])])
        self.assert_finds(boards, "two tea", [(TEA, ref) for ref in (refs[1], refs[3])])

    def test_many_queries_of_one_index(self):
        index = Index(self.boards)
        for _ in range(2):
            self.assertEqual(index.find("tea"), self.found(2, 3, 4))
            self.assertEqual(index.find("nothing"), [])
            index.find("tea").clear()

    def test_the_list_of_boards_is_not_kept(self):
        boards = list(self.boards)
        index = Index(boards)
        boards.clear()
        self.assertEqual(index.find("tea"), self.found(2, 3, 4))
        boards.append((MILK, board_of_texts("tea")))
        self.assertEqual(index.find("tea"), self.found(2, 3, 4))

    def test_nothing_changes_boards(self):
        before = board_state(self.board)
        Index(self.boards).find("tea")
        plain_find(self.boards, "tea")
        self.assertEqual(board_state(self.board), before)

    def test_two_indexes_have_no_effect_on_each_other(self):
        one, other = Index(self.boards), Index([(MILK, board_of_texts("tea"))])
        self.assertEqual((one.find("tea"), other.find("tea")), (self.found(2, 3, 4), self.found(2, room=MILK)))
        self.assertEqual(Index([]).find("tea"), [])

    def test_the_arguments_by_name(self):
        self.assertEqual(Index(boards=self.boards).find(query="teapot"), self.found(5))
        self.assertEqual(plain_find(query="teapot", boards=self.boards), self.found(5))

    def test_against_a_plain_model(self):
        chance, hits = random.Random(3), 0
        words = ["tea", "Milk", "at", "4", "four", "TEA", "teas", "a"]
        for seed in range(15):
            boards = []
            for number in range(seed % 4 + 1):
                writer = Writer("bert")
                for _ in range(30):
                    text = chance.choice([" ", ", ", "\n", "-"]).join(chance.sample(words, chance.randint(1, 4)))
                    ref = chance.choice(writer.letters).ref
                    body = chance.choice([("say", text), ("reply", ref, text), ("edit", ref, text), ("recall", ref)])
                    writer.write(chance.choice(["anna", "bert"]), *body)
                boards.append((chance.choice([TEA, MILK]), writer.board()))
            for _ in range(20):
                query = " ".join(chance.sample(words + ["x"], chance.randint(0, 3)))
                asked = set(re.findall("[a-z0-9]+", query.lower()))
                expected = [(room, item.ref) for room, board in boards for item in board if asked and not item.recalled
                            and asked <= set(re.findall("[a-z0-9]+", item.text.lower()))]
                hits += len(expected)
                self.assert_finds(boards, query, expected)
        self.assertGreater(hits, 200)

    def test_thousands_of_letters(self):
        texts = [f"tea {number} at {number // 2}" for number in range(4000)]
        boards = [(TEA, board_of(some_letters(1, 5000))), (MILK, board_of_texts(*texts))]
        started = time.perf_counter()
        index = Index(boards)
        for number in range(300):
            self.assertEqual(len(index.find(f"tea {number} at")), 3 if number else 2)
        self.assertEqual(len(index.find("tea")), 4000)
        self.assertEqual(plain_find(boards, "tea 7"), index.find("7 TEA"))
        self.assertLess(time.perf_counter() - started, 5)


if __name__ == "__main__":
    unittest.main()
