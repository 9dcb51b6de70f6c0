"""Tests of lettersonce.board: points 10.1 and 10.2."""

import time
import unittest

from lettersonce import errors
from lettersonce.board import Board, Item, board_of
from lettersonce.letters import Letter
from lettersonce.meeting import meet

from boards import Writer, board_state, board_with, item_state, some_letters
from rooms import NAMES, founding, letter, values
from towns import BusyTown, have_room


def plain_items(letters):
    """Return what point 10.2 says of the items: for each one what the letters behind it do to it."""
    items = []
    for place, row in enumerate(letters):
        if row.body[0] not in ("say", "reply"):
            continue
        parent = None
        if row.body[0] == "reply" and [item for item in items if item[0] == row.body[1]]:
            parent = row.body[1]
        text, edits, recalled, marks = row.body[-1], 0, False, []
        for later in letters[place + 1:]:
            if recalled or later.body[0] not in ("edit", "recall", "mark") or later.body[1] != row.ref:
                continue
            if later.body[0] == "mark":
                pair = (later.body[2], later.author)
                marks = [mark for mark in marks if mark != pair] if pair in marks else marks + [pair]
            elif later.author == row.author:
                recalled = later.body[0] == "recall"
                text = "" if recalled else later.body[2]
                edits += not recalled
                marks = [] if recalled else marks
        words = sorted({word for word, _ in marks})
        told = [(word, tuple(sorted([name for other, name in marks if other == word]))) for word in words]
        items.append((row.ref, row.author, text, parent, edits, recalled, told))
    return items


class Boards(unittest.TestCase):
    def assert_items(self, board, expected):
        """Assert that a board has just these items, each told by ref, text, parent, edits and marks; None for recalled ones."""
        told = [(item.ref, None if item.recalled else item.text, item.parent, item.edits, item.marks()) for item in board]
        self.assertEqual(told, expected)
        for item in board:
            self.assertIs(type(item), Item)
            self.assertEqual(item.author, item.ref[0])
            self.assertIs(type(item.recalled), bool)
            if item.recalled:
                self.assertEqual((item.text, item.marks()), ("", []))

    def assert_marks(self, writer, ref, expected):
        self.assertEqual(writer.board().item(ref).marks(), expected)


class Making(Boards):
    def test_no_letters(self):
        board = board_of([])
        self.assertIs(type(board), Board)
        self.assertEqual((board.title, board.founder, len(board), list(board), board.notices()), ("", None, 0, [], []))
        self.assertNotIn(("anna", 1), board)
        self.assertRaises(errors.Unknown, board.item, ("anna", 1))

    def test_a_founding_letter(self):
        board = board_of([founding("bert", author="carl", title="Tea at four")])
        self.assertEqual((board.title, board.founder, len(board), board.notices()), ("Tea at four", "carl", 0, []))
        self.assertNotIn(("carl", 1), board)

    def test_a_founding_letter_that_is_not_the_first(self):
        rows = [letter("bert", 1, 2, ("title", "Milk")), letter("bert", 2, 3, ("say", "hello")), founding("bert", title="Tea")]
        board = board_of(rows)
        self.assertEqual((board.title, board.founder), ("Tea", "anna"))
        self.assert_items(board, [(("bert", 2), "hello", None, 0, [])])
        board = board_of(rows + [letter("anna", 2, 4, ("title", "Coffee"))])
        self.assertEqual((board.title, board.founder), ("Coffee", "anna"))
        board = board_of(rows + [founding(author="zoe", title="")])
        self.assertEqual((board.title, board.founder), ("", "zoe"))

    def test_letters_without_a_founding_letter(self):
        board = board_with(("say", "hello"), ("title", "Tea"))
        self.assertEqual((board.title, board.founder), ("Tea", None))
        self.assert_items(board, [(("anna", 1), "hello", None, 0, [])])

    def test_titles(self):
        writer = Writer("bert", title="Tea")
        for author, title in (("bert", "Milk"), ("anna", "Coffee"), ("anna", ""), ("bert", " x "), ("zoe", "t" * 60)):
            writer.write(author, "title", title)
            board = writer.board()
            self.assertEqual((board.title, board.founder, len(board), board.notices()), (title, "anna", 0, []))

    def test_notices(self):
        writer = Writer("bert", "carl")
        self.assertEqual(writer.board().notices(), [])
        writer.write("anna", "add", "dora")
        writer.write("anna", "say", "hello")
        writer.write("bert", "cut", "carl")
        writer.write("anna", "hand", "bert")
        writer.write("anna", "add", "dora")
        writer.write("zoe", "cut", "anna")
        board = writer.board()
        self.assertEqual(board.notices(), [(("anna", 2), "add", "dora"), (("bert", 1), "cut", "carl"), (("anna", 4), "hand", "bert"),
                                           (("anna", 5), "add", "dora"), (("zoe", 1), "cut", "anna")])
        self.assertEqual({type(row) for row in board.notices()}, {tuple})
        self.assert_items(board, [(("anna", 3), "hello", None, 0, [])])

    def test_seen_does_nothing(self):
        writer = Writer("bert")
        writer.write("anna", "say", "hello")
        before = board_state(writer.board())
        writer.write("bert", "seen")
        self.assertEqual(board_state(writer.board()), before)

    def test_the_letters_stay(self):
        rows = some_letters(1, 80)
        before, list_before = values(rows), list(rows)
        board_of(rows)
        self.assertEqual((values(rows), rows), (before, list_before))

    def test_the_argument_by_name(self):
        self.assertEqual(len(board_of(letters=[])), 0)


class Items(Boards):
    def test_say(self):
        writer = Writer("bert")
        for author, text in (("anna", "one"), ("bert", "two\n"), ("anna", "one"), ("zoe", "@ 4")):
            writer.write(author, "say", text)
        self.assert_items(writer.board(), [(("anna", 2), "one", None, 0, []), (("bert", 1), "two\n", None, 0, []),
                                           (("anna", 3), "one", None, 0, []), (("zoe", 1), "@ 4", None, 0, [])])

    def test_reply(self):
        writer = Writer("bert")
        first = writer.write("anna", "say", "one")
        second = writer.write("bert", "reply", first, "two")
        writer.write("bert", "reply", second, "three")
        writer.write("anna", "reply", first, "four")
        self.assert_items(writer.board(), [
            (("anna", 2), "one", None, 0, []), (("bert", 1), "two", first, 0, []), (("bert", 2), "three", second, 0, []),
            (("anna", 3), "four", first, 0, [])])

    def test_replies_to_letters_without_an_item(self):
        writer = Writer("bert")
        seen = writer.write("bert", "seen")
        act = writer.write("anna", "add", "carl")
        edit = writer.write("anna", "edit", ("anna", 1), "text")
        for ref in (("anna", 1), seen, act, edit, ("zoe", 3)):
            writer.write("bert", "reply", ref, "to nothing")
        self.assertEqual([item.parent for item in writer.board()], [None] * 5)
        self.assertEqual({item.text for item in writer.board()}, {"to nothing"})

    def test_replies_to_later_letters_and_to_themselves(self):
        writer = Writer("bert")
        writer.write("bert", "reply", ("anna", 2), "too early")
        writer.write("bert", "reply", ("bert", 2), "to myself")
        writer.write("anna", "say", "late")
        writer.write("bert", "reply", ("anna", 2), "not too early")
        self.assertEqual([item.parent for item in writer.board()], [None, None, None, ("anna", 2)])

    def test_replies_to_recalled_items(self):
        writer = Writer("bert")
        ref = writer.write("anna", "say", "one")
        writer.write("bert", "reply", ref, "two")
        writer.write("anna", "recall", ref)
        writer.write("bert", "reply", ref, "three")
        self.assert_items(writer.board(), [(ref, None, None, 0, []), (("bert", 1), "two", ref, 0, []),
                                           (("bert", 2), "three", ref, 0, [])])

    def test_edit(self):
        writer = Writer("bert")
        ref = writer.write("anna", "say", "one")
        for many, text in enumerate(["two", "three", "three"], start=1):
            writer.write("anna", "edit", ref, text)
            self.assert_items(writer.board(), [(ref, text, None, many, [])])

    def test_edit_a_reply(self):
        writer = Writer("bert")
        first = writer.write("anna", "say", "one")
        ref = writer.write("bert", "reply", first, "two")
        writer.write("bert", "edit", ref, "three")
        self.assert_items(writer.board(), [(first, "one", None, 0, []), (ref, "three", first, 1, [])])

    def test_edits_that_do_nothing(self):
        writer = Writer("bert")
        ref = writer.write("anna", "say", "one")
        gone = writer.write("anna", "say", "two")
        edit = writer.write("anna", "edit", gone, "three")
        writer.write("anna", "recall", gone)
        before = board_state(writer.board())
        self.assertEqual([item.edits for item in writer.board()], [0, 1])
        for author, target in (("bert", ref), ("zoe", ref), ("anna", gone), ("bert", gone), ("anna", ("anna", 1)), ("anna", edit),
                               ("zoe", ("zoe", 1)), ("anna", ("zoe", 9)), ("anna", ("anna", 50))):
            writer.write(author, "edit", target, "changed")
            self.assertEqual(board_state(writer.board()), before)

    def test_an_edit_ahead_of_its_letter(self):
        writer = Writer("bert")
        writer.write("anna", "edit", ("anna", 3), "early")
        writer.write("anna", "say", "one")
        self.assert_items(writer.board(), [(("anna", 3), "one", None, 0, [])])

    def test_recall(self):
        writer = Writer("bert")
        first = writer.write("anna", "say", "one")
        ref = writer.write("bert", "reply", first, "two")
        writer.write("bert", "edit", ref, "three")
        writer.write("anna", "mark", ref, "star")
        writer.write("bert", "recall", ref)
        self.assert_items(writer.board(), [(first, "one", None, 0, []), (ref, None, first, 1, [])])
        self.assertIn(ref, writer.board())
        before = board_state(writer.board())
        writer.write("bert", "recall", ref)
        writer.write("bert", "edit", ref, "four")
        writer.write("anna", "mark", ref, "star")
        writer.write("bert", "mark", ref, "yes")
        self.assertEqual(board_state(writer.board()), before)

    def test_recalls_that_do_nothing(self):
        writer = Writer("bert")
        ref = writer.write("anna", "say", "one")
        seen = writer.write("anna", "seen")
        before = board_state(writer.board())
        for author, target in (("bert", ref), ("zoe", ref), ("anna", ("anna", 1)), ("anna", seen), ("anna", ("zoe", 9)),
                               ("anna", ("anna", 50))):
            writer.write(author, "recall", target)
            self.assertEqual(board_state(writer.board()), before)

    def test_item(self):
        writer = Writer("bert")
        refs = [writer.write("anna", "say", "one"), writer.write("bert", "reply", ("anna", 2), "two")]
        other = writer.write("bert", "seen")
        board = writer.board()
        for ref in refs:
            self.assertEqual(board.item(ref).ref, ref)
            self.assertIs(type(board.item(ref).ref), tuple)
            self.assertIn(ref, board)
        self.assertEqual([item.ref for item in board], refs)
        self.assertEqual((len(board), [board.item(ref).text for ref in refs]), (2, ["one", "two"]))
        for ref in (("anna", 1), other, ("anna", 3), ("bert", 10 ** 18), ("zoe", 1)):
            self.assertNotIn(ref, board)
            with self.assertRaises(errors.Unknown) as caught:
                board.item(ref)
            self.assertIs(type(caught.exception), errors.Unknown)
        self.assertEqual(board.item(ref=refs[0]).author, "anna")


class Marks(Boards):
    def setUp(self):
        self.writer = Writer("bert")
        self.ref = self.writer.write("anna", "say", "one")

    def test_put_and_taken_away_again(self):
        for expected in ([("star", ("bert",))], [], [("star", ("bert",))], []):
            self.writer.write("bert", "mark", self.ref, "star")
            self.assert_marks(self.writer, self.ref, expected)

    def test_by_several_people_and_under_several_words(self):
        steps = [
            ("carl", "star", [("star", ("carl",))]),
            ("anna", "star", [("star", ("anna", "carl"))]),
            ("bert", "star", [("star", ("anna", "bert", "carl"))]),
            ("carl", "no", [("no", ("carl",)), ("star", ("anna", "bert", "carl"))]),
            ("anna", "yes", [("no", ("carl",)), ("star", ("anna", "bert", "carl")), ("yes", ("anna",))]),
            ("anna", "star", [("no", ("carl",)), ("star", ("bert", "carl")), ("yes", ("anna",))]),
            ("carl", "no", [("star", ("bert", "carl")), ("yes", ("anna",))]),
            ("bert", "a1", [("a1", ("bert",)), ("star", ("bert", "carl")), ("yes", ("anna",))]),
            ("anna", "star", [("a1", ("bert",)), ("star", ("anna", "bert", "carl")), ("yes", ("anna",))]),
        ]
        for name, word, expected in steps:
            self.writer.write(name, "mark", self.ref, word)
            self.assert_marks(self.writer, self.ref, expected)

    def test_by_the_author_of_the_item(self):
        self.writer.write("anna", "mark", self.ref, "star")
        self.assert_marks(self.writer, self.ref, [("star", ("anna",))])

    def test_on_a_recalled_item(self):
        self.writer.write("bert", "mark", self.ref, "star")
        self.writer.write("anna", "recall", self.ref)
        self.writer.write("bert", "mark", self.ref, "star")
        self.writer.write("carl", "mark", self.ref, "yes")
        self.assert_marks(self.writer, self.ref, [])

    def test_on_what_is_no_item(self):
        before = board_state(self.writer.board())
        for ref in (("anna", 1), ("zoe", 1), ("anna", 9)):
            self.writer.write("bert", "mark", ref, "star")
            self.assertEqual(board_state(self.writer.board()), before)

    def test_an_edit_behind_a_mark(self):
        self.writer.write("bert", "mark", self.ref, "star")
        self.writer.write("anna", "edit", self.ref, "two")
        self.assert_items(self.writer.board(), [(self.ref, "two", None, 1, [("star", ("bert",))])])
        self.writer.write("bert", "mark", self.ref, "star")
        self.assert_marks(self.writer, self.ref, [])

    def test_on_one_of_several_items(self):
        other = self.writer.write("bert", "reply", self.ref, "two")
        self.writer.write("bert", "mark", other, "star")
        self.assert_marks(self.writer, self.ref, [])
        self.assert_marks(self.writer, other, [("star", ("bert",))])

    def test_the_list_is_new(self):
        self.writer.write("bert", "mark", self.ref, "star")
        board = self.writer.board()
        marks = board.item(self.ref).marks()
        self.assertEqual((type(marks), type(marks[0]), type(marks[0][1])), (list, tuple, tuple))
        marks.append("more")
        marks[0] = None
        self.assertEqual(board.item(self.ref).marks(), [("star", ("bert",))])


class Together(Boards):
    def test_against_a_plain_model(self):
        met = {"edits": 0, "recalled": 0, "marked": 0, "replies": 0}
        for seed in range(80):
            rows = some_letters(seed, 20 + 3 * seed)
            board = board_of(rows)
            expected = plain_items(rows)
            self.assertEqual([item_state(item) for item in board], expected, seed)
            refs = [row[0] for row in expected]
            self.assertEqual((len(board), [row.ref in board for row in rows]), (len(refs), [row.ref in refs for row in rows]))
            self.assertEqual([item_state(board.item(ref)) for ref in refs], expected)
            titles = [row.body[1] for row in rows if row.body[0] in ("title", "found")]
            self.assertEqual((board.title, board.founder), (titles[-1], "anna"))
            self.assertEqual(board.notices(), [(row.ref, *row.body) for row in rows if row.body[0] in ("add", "cut", "hand")])
            for row in expected:
                met["edits"] += row[4] > 1
                met["recalled"] += row[5]
                met["marked"] += len(row[6]) > 1
                met["replies"] += row[3] is not None
        self.assertGreater(min(met.values()), 30, met)

    def test_what_is_returned_is_new(self):
        board = board_of(some_letters(3, 60))
        before = board_state(board)
        board.notices().clear()
        board.notices().append(1)
        list(board).clear()
        self.assertEqual(board_state(board), before)

    def test_two_boards_have_no_effect_on_each_other(self):
        rows = some_letters(4, 60)
        one = board_of(rows)
        before = board_state(one)
        other = board_of(rows + some_letters(5, 60, people=("dora", "emil")))
        self.assertEqual(board_state(one), before)
        self.assertNotEqual(board_state(other), before)
        self.assertEqual(board_state(board_of(rows)), before)

    def assert_begins(self, short, long):
        """Assert that a board is a beginning of another one, but for what later letters may change."""
        self.assertEqual([(item.ref, item.author, item.parent) for item in short],
                         [(item.ref, item.author, item.parent) for item in long][:len(short)])
        self.assertEqual(short.notices(), long.notices()[:len(short.notices())])
        for one, other in zip(short, long):
            self.assertLessEqual(one.edits, other.edits)
            self.assertLessEqual(one.recalled, other.recalled)
            if one.edits == other.edits and not other.recalled:
                self.assertEqual(one.text, other.text)

    def test_the_board_of_a_shorter_history_is_a_beginning(self):
        for seed in range(10):
            rows = some_letters(seed, 80)
            whole = board_of(rows)
            for many in range(0, len(rows) + 1, 7):
                self.assert_begins(board_of(rows[:many]), whole)

    def test_the_boards_of_the_desks_of_a_town(self):
        compared = 0
        for seed in range(8):
            busy = BusyTown(seed, people=tuple(NAMES[:3 + seed % 3]), acts=0.1)
            room = busy.rooms[0]
            for step in range(300):
                busy.step()
                if step % 100 == 60:
                    meet(busy.town, room)
                if step % 20 == 19:
                    boards = [board_of(busy.town.desk(name).history(room)) for name in have_room(busy.town, room)]
                    boards = sorted(boards, key=lambda board: (len(board), len(board.notices())))
                    for short, long in zip(boards, boards[1:]):
                        self.assert_begins(short, long)
                        compared += len(short)
        self.assertGreater(compared, 100)

    def test_thousands_of_letters(self):
        started = time.perf_counter()
        rows = some_letters(1, 6000)
        made = time.perf_counter()
        board = board_of(rows)
        self.assertGreater(len(board), 1000)
        self.assertLess(time.perf_counter() - made, 2)
        one = [Letter("anna", 1, 1, (("anna", 1),), ("say", "one"))]
        one += [Letter("anna", number, number, (("anna", number),), ("edit", ("anna", 1), f"{number}")) for number in range(2, 5001)]
        one += [Letter(name, number, 9000 + number, ((name, number),), ("mark", ("anna", 1), f"w{number}"))
                for name in NAMES for number in range(1, 501)]
        item = board_of(one).item(("anna", 1))
        self.assertEqual((item.text, item.edits, len(item.marks())), ("5000", 4999, 500))
        self.assertEqual(item.marks()[0], ("w1", tuple(NAMES)))
        self.assertLess(time.perf_counter() - started, 8)


if __name__ == "__main__":
    unittest.main()
