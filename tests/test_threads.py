"""Tests of lettersonce.threads: point 10.3."""

import time
import unittest

from lettersonce import errors
from lettersonce.board import Item, board_of
from lettersonce.letters import Letter
from lettersonce.threads import below, path, replies, walk

from boards import Writer, board_state, some_letters


def plain_walk(board, parent=None, depth=0):
    """Return the pairs of depth and ref, as point 10.3 says, by a function that calls itself."""
    rows = []
    for item in board:
        if item.parent == parent:
            rows.append((depth, item.ref))
            rows.extend(plain_walk(board, item.ref, depth + 1))
    return rows


def walked(board):
    """Return the list of the pairs of depth and ref that walk gives."""
    rows = []
    for depth, item in walk(board):
        assert type(item) is Item
        rows.append((depth, item.ref))
    return rows


class Threads(unittest.TestCase):
    def setUp(self):
        """Two roots with replies at several depths, which stand on the board in another order."""
        writer = Writer("bert", "carl")
        self.a = writer.write("anna", "say", "a")
        self.b = writer.write("bert", "say", "b")
        self.b1 = writer.write("carl", "reply", self.b, "b1")
        self.a1 = writer.write("bert", "reply", self.a, "a1")
        self.a11 = writer.write("anna", "reply", self.a1, "a11")
        self.a2 = writer.write("anna", "reply", self.a, "a2")
        self.b11 = writer.write("bert", "reply", self.b1, "b11")
        self.a12 = writer.write("carl", "reply", self.a1, "a12")
        self.c = writer.write("carl", "reply", ("anna", 1), "c")
        self.a121 = writer.write("anna", "reply", self.a12, "a121")
        self.b2 = writer.write("bert", "reply", self.b, "b2")
        self.writer = writer
        self.board = writer.board()

    def test_walk(self):
        self.assertEqual([item.text for _, item in walk(self.board)],
                         ["a", "a1", "a11", "a12", "a121", "a2", "b", "b1", "b11", "b2", "c"])
        self.assertEqual([depth for depth, _ in walk(self.board)], [0, 1, 2, 2, 3, 1, 0, 1, 2, 1, 0])
        for pair in walk(self.board):
            self.assertEqual((type(pair), len(pair), type(pair[0])), (tuple, 2, int))
            self.assertIs(pair[1], self.board.item(pair[1].ref))

    def test_walk_of_no_items(self):
        for letters in ([], Writer("bert").letters, [Letter("anna", 2, 3, (("anna", 2),), ("seen",))]):
            self.assertEqual(walked(board_of(letters)), [])

    def test_walk_of_roots_alone(self):
        writer = Writer("bert")
        refs = [writer.write("anna", "say", "one"), writer.write("bert", "say", "two"),
                writer.write("anna", "reply", ("zoe", 1), "three")]
        self.assertEqual(walked(writer.board()), [(0, ref) for ref in refs])

    def test_walk_goes_over_recalled_items(self):
        self.writer.write("bert", "recall", self.a1)
        board = self.writer.board()
        self.assertEqual(walked(board), walked(self.board))
        self.assertEqual([item.text for _, item in walk(board)], ["a", "", "a11", "a12", "a121", "a2", "b", "b1", "b11", "b2", "c"])

    def test_two_walks_at_once(self):
        pairs = list(zip(walk(self.board), walk(self.board)))
        self.assertEqual(len(pairs), 11)
        self.assertTrue(all([one == other for one, other in pairs]))

    def test_replies(self):
        expected = {self.a: [self.a1, self.a2], self.b: [self.b1, self.b2], self.a1: [self.a11, self.a12], self.b1: [self.b11],
                    self.a12: [self.a121]}
        for item in self.board:
            answer = replies(self.board, item.ref)
            self.assertEqual((answer, type(answer)), (expected.get(item.ref, []), list))

    def test_below(self):
        expected = {self.a: 5, self.b: 3, self.a1: 3, self.b1: 1, self.a12: 1}
        for item in self.board:
            answer = below(self.board, item.ref)
            self.assertEqual((answer, type(answer)), (expected.get(item.ref, 0), int))

    def test_path(self):
        expected = {
            self.a: [], self.a1: [self.a], self.a11: [self.a, self.a1], self.a12: [self.a, self.a1],
            self.a121: [self.a, self.a1, self.a12], self.a2: [self.a], self.b: [], self.b1: [self.b], self.b11: [self.b, self.b1],
            self.b2: [self.b], self.c: [],
        }
        for item in self.board:
            answer = path(self.board, item.ref)
            self.assertEqual((answer, type(answer)), (expected[item.ref] + [item.ref], list))

    def test_refs_without_an_item(self):
        seen = self.writer.write("anna", "seen")
        board = self.writer.board()
        for ref in (("anna", 1), seen, ("zoe", 1), ("anna", 10 ** 18)):
            for call in (replies, below, path):
                with self.assertRaises(errors.Unknown) as caught:
                    call(board, ref)
                self.assertIs(type(caught.exception), errors.Unknown)
                self.assertRaises(errors.Unknown, call, board_of([]), ref)

    def test_refs_to_which_something_without_an_item_was_answered(self):
        """C answers the founding letter, which has no item."""
        for call in (replies, below, path):
            self.assertRaises(errors.Unknown, call, self.board, ("anna", 1))

    def test_what_is_returned_is_new(self):
        before = board_state(self.board)
        for call in (replies, path):
            first = call(self.board, self.a1)
            expected = list(first)
            first.clear()
            self.assertEqual(call(self.board, self.a1), expected)
        list(walk(self.board)).clear()
        self.assertEqual(board_state(self.board), before)

    def test_the_arguments_by_name(self):
        self.assertEqual(len(list(walk(board=self.board))), 11)
        self.assertEqual(replies(ref=self.b1, board=self.board), [self.b11])
        self.assertEqual(below(ref=self.b1, board=self.board), 1)
        self.assertEqual(path(ref=self.b1, board=self.board), [self.b, self.b1])

    def test_against_a_plain_model(self):
        deepest = 0
        for seed in range(30):
            board = board_of(some_letters(seed, 60 + 2 * seed, kinds=["say"] + ["reply"] * 6 + ["edit", "recall"]))
            rows = plain_walk(board)
            self.assertEqual(walked(board), rows)
            self.assertEqual(sorted([ref for _, ref in rows]), sorted([item.ref for item in board]))
            for place, (depth, ref) in enumerate(rows):
                self.assertEqual(replies(board, ref), [item.ref for item in board if item.parent == ref])
                many = 0
                while place + many + 1 < len(rows) and rows[place + many + 1][0] > depth:
                    many += 1
                self.assertEqual(below(board, ref), many)
                way = path(board, ref)
                self.assertEqual((len(way), way[-1]), (depth + 1, ref))
                self.assertEqual([board.item(step).parent for step in way], [None] + way[:-1])
                deepest = max(deepest, depth)
        self.assertGreater(deepest, 5)


class Deep(unittest.TestCase):
    def chain(self, many):
        """Return a board of replies, each below the one before."""
        letters = [Letter("anna", 1, 1, (("anna", 1),), ("say", "root"))]
        for number in range(2, many + 1):
            letters.append(Letter("anna", number, number, (("anna", number),), ("reply", ("anna", number - 1), "deeper")))
        return board_of(letters)

    def test_thousands_of_replies_each_below_the_one_before(self):
        started = time.perf_counter()
        many = 5000
        board = self.chain(many)
        self.assertEqual(walked(board), [(number - 1, ("anna", number)) for number in range(1, many + 1)])
        for number in (1, 2, 1500, many - 1, many):
            self.assertEqual(below(board, ("anna", number)), many - number)
            self.assertEqual(path(board, ("anna", number)), [("anna", step) for step in range(1, number + 1)])
            self.assertEqual(replies(board, ("anna", number)), [("anna", number + 1)] if number < many else [])
        self.assertLess(time.perf_counter() - started, 5)

    def test_thousands_of_replies_to_one_item(self):
        started = time.perf_counter()
        letters = [Letter("anna", 1, 1, (("anna", 1),), ("say", "root")), Letter("bert", 1, 2, (("bert", 1),), ("say", "other"))]
        for number in range(2, 5001):
            letters.append(Letter("anna", number, number + 1, (("anna", number),), ("reply", ("anna", 1), "wide")))
        board = board_of(letters)
        refs = [("anna", number) for number in range(2, 5001)]
        self.assertEqual(walked(board), [(0, ("anna", 1))] + [(1, ref) for ref in refs] + [(0, ("bert", 1))])
        self.assertEqual((replies(board, ("anna", 1)), below(board, ("anna", 1)), below(board, ("bert", 1))), (refs, 4999, 0))
        self.assertLess(time.perf_counter() - started, 5)


if __name__ == "__main__":
    unittest.main()
