"""The examples of the interface, word for word."""

import doctest
import pathlib
import unittest

NAMES = """
>>> from lettersonce.names import is_name, is_ref, is_text, is_title
>>> is_name("bert7"), is_name("7bert"), is_name("Bert")
(True, False, False)
>>> is_ref(("anna", 3)), is_ref(["anna", 3]), is_ref(("anna", True))
(True, False, False)
>>> is_text(""), is_title(""), is_text("a\\nb"), is_title("a\\nb")
(False, True, True, False)
"""

BODIES = """
>>> from lettersonce.bodies import is_act, is_body, target, text_of
>>> is_body(("found", "Tea", ("bert", "carl"))), is_body(("found", "Tea", ("carl", "bert"))), is_body(("found", "Tea", ()))
(True, False, True)
>>> is_body(("say", "hello")), is_body(("say",)), is_body(["say", "hello"])
(True, False, False)
>>> target(("reply", ("anna", 2), "yes")), text_of(("reply", ("anna", 2), "yes")), is_act(("add", "bert"))
(('anna', 2), 'yes', True)
"""

LETTERS = """
>>> from lettersonce.letters import Letter, by_key, is_letter
>>> letter = Letter("bert", 2, 5, (("anna", 4), ("bert", 2)), ("say", "hello"))
>>> letter.ref, letter.key, letter.count("anna"), letter.count("carl")
(('bert', 2), (5, 'bert'), 4, 0)
>>> letter.has_seen(("anna", 4)), letter.has_seen(("anna", 5)), letter.has_seen(("carl", 1))
(True, False, False)
>>> is_letter(letter.value()), is_letter(("anna", 1, 1, (("anna", 1),), ("say", "hello")))
(True, False)
>>> other = Letter("anna", 4, 5, (("anna", 4),), ("seen",))
>>> [row.ref for row in by_key([letter, other])]
[('anna', 4), ('bert', 2)]
"""

FOLDING = """
>>> from lettersonce.folding import fold, unfold
>>> fold("one two three", 7)
['one two', ' three']
>>> fold("Title: abcdefghij k", 5)
['Title:', ' abcdefghij', ' k']
>>> unfold(["Title:", " abcdefghij", " k", "Kind: seen"])
['Title: abcdefghij k', 'Kind: seen']
"""

HEADERS = """
>>> from lettersonce.headers import header_lines
>>> from lettersonce.letters import Letter
>>> header_lines(Letter("bert", 2, 5, (("anna", 4), ("bert", 2)), ("reply", ("anna", 3), "one\\ntwo")))
['From: bert 2', 'Stamp: 5', 'Seen: anna 4, bert 2', 'Kind: reply', 'Ref: anna 3', 'Lines: 2']
"""

MAIL = """
>>> from lettersonce.letters import Letter
>>> from lettersonce.mail import mail_lines, read_mail
>>> letter = Letter("bert", 2, 5, (("anna", 4), ("bert", 2)), ("say", "hello\\n."))
>>> mail_lines(letter)
['From: bert 2', 'Stamp: 5', 'Seen: anna 4, bert 2', 'Kind: say', 'Lines: 2', '', '|hello', '|.', '.']
>>> lines = ["From:", " bert 2"] + mail_lines(letter)[1:] + ["From: nobody"]
>>> read, index = read_mail(lines, 0)
>>> read.value() == letter.value(), index
(True, 10)
"""

ARCHIVE = """
>>> from lettersonce.archive import archive, read_beginning
>>> from lettersonce.letters import Letter
>>> letter = Letter("bert", 2, 5, (("anna", 4), ("bert", 2)), ("say", "hello"))
>>> text = archive([letter])
>>> letters, length = read_beginning(text + "From: anna 1\\nStamp: 1")
>>> [row.ref for row in letters], length, len(text)
([('bert', 2)], 72, 72)
"""

ROLL = """
>>> from lettersonce.letters import Letter
>>> from lettersonce.roll import roll_of
>>> first = Letter("anna", 1, 1, (("anna", 1),), ("found", "tea", ("bert",)))
>>> second = Letter("anna", 2, 4, (("anna", 2), ("bert", 2)), ("cut", "bert"))
>>> roll = roll_of("anna", {"anna": [first, second]})
>>> roll.members(), roll.cuts(), roll.keeper
(['anna'], {'bert': 2}, 'anna')
>>> roll.counts(("bert", 2)), roll.counts(("bert", 3))
(True, False)
"""

LEDGER = """
>>> from lettersonce.ledger import Ledger
>>> from lettersonce.letters import Letter
>>> first = Letter("anna", 1, 1, (("anna", 1),), ("found", "tea", ("bert",)))
>>> ledger = Ledger(first)
>>> reply = Letter("bert", 2, 3, (("anna", 1), ("bert", 2)), ("say", "me too"))
>>> ledger.take(reply), ledger.waiting()
([], [('bert', 2)])
>>> ledger.take(Letter("bert", 1, 2, (("anna", 1), ("bert", 1)), ("say", "here")))
[('bert', 1), ('bert', 2)]
>>> ledger.next_letter("anna", ("seen",)).value()
('anna', 2, 4, (('anna', 2), ('bert', 2)), ('seen',))
"""

SETTLING = """
>>> from lettersonce.ledger import Ledger
>>> from lettersonce.letters import Letter
>>> from lettersonce.settling import settled, tail
>>> ledger = Ledger(Letter("anna", 1, 1, (("anna", 1),), ("found", "tea", ("bert",))))
>>> ledger.take(Letter("anna", 2, 2, (("anna", 2),), ("say", "who comes?")))
[('anna', 2)]
>>> [letter.ref for letter in settled(ledger)], [letter.ref for letter in tail(ledger)]
([('anna', 1)], [('anna', 2)])
>>> ledger.take(Letter("bert", 1, 3, (("anna", 2), ("bert", 1)), ("say", "I do")))
[('bert', 1)]
>>> [letter.ref for letter in settled(ledger)], [letter.ref for letter in tail(ledger)]
([('anna', 1), ('anna', 2)], [('bert', 1)])
"""

ENTRY = """
>>> from lettersonce.diary import entry
>>> from lettersonce.letters import Letter
>>> entry(("anna", "tea"), Letter("bert", 1, 2, (("anna", 1), ("bert", 1)), ("say", "hello\\n\\nyou")))
'Room: anna tea\\nFrom: bert 1\\nStamp: 2\\nSeen: anna 1, bert 1\\nKind: say\\nLines: 3\\n\\n|hello\\n|\\n|you\\n.\\n'
"""

READ_DIARY = """
>>> from lettersonce.diary import entry, read_diary
>>> from lettersonce.letters import Letter
>>> whole = entry(("anna", "tea"), Letter("anna", 1, 1, (("anna", 1),), ("found", "Tea", ())))
>>> len(whole)
86
>>> entries, length = read_diary(whole + whole[:-1])
>>> length, len(entries), entries[0][0], entries[0][1].ref
(86, 1, ('anna', 'tea'), ('anna', 1))
"""

DESK = """
>>> from lettersonce.desk import Desk
>>> anna = Desk("anna")
>>> bert = Desk("bert")
>>> room = anna.found("tea", "Tea at four", ("bert",))
>>> anna.write(room, ("say", "who comes?"))
('anna', 2)
>>> answers = anna.handle("bert", ("have", room, bert.have(room)))
>>> [(receiver, parcel[0], len(parcel[2])) for receiver, parcel in answers]
[('bert', 'letters', 2)]
>>> bert.handle("anna", answers[0][1])
[]
>>> bert.have(room), bert.saved
((('anna', 2),), 0)
>>> bert.write(room, ("say", "I do"))
('bert', 1)
>>> bert.saved == len(bert.diary)
True
>>> [letter.ref for letter in bert.history(room)], [letter.ref for letter in bert.tail(room)]
([('anna', 1), ('anna', 2)], [('bert', 1)])
"""

PARCELS = """
>>> from lettersonce.parcels import is_parcel
>>> is_parcel(("have", ("anna", "tea"), (("anna", 2), ("bert", 1))))
True
>>> is_parcel(("have", ("anna", "tea"), (("bert", 1), ("anna", 2))))
False
>>> is_parcel(("letters", ("anna", "tea"), ()))
False
"""

POST = """
>>> from lettersonce.post import Post
>>> post = Post()
>>> post.put("bert", "anna", ("have", ("anna", "tea"), ()))
1
>>> post.put("carl", "anna", ("have", ("anna", "tea"), (("anna", 1),)))
2
>>> post.lose(1)
>>> post.parcel(2), post.numbers(), len(post), post.sent
(('carl', 'anna', ('have', ('anna', 'tea'), (('anna', 1),))), [2], 1, 2)
"""

SCENARIO = """
>>> from lettersonce.scenario import run
>>> from lettersonce.town import Town
>>> town = Town(["anna", "bert"])
>>> room = ("anna", "tea")
>>> run(town, [("found", "anna", "tea", "Tea at four", ("bert",)), ("ask", "bert", "anna", room), ("deliver", 1), ("deliver", 2)])
[('done', ('anna', 'tea')), ('done', 1), ('done', [2]), ('done', [])]
>>> run(town, [("write", "bert", room, ("add", "carl")), ("stop", "bert", 0), ("write", "bert", room, ("seen",)), ("fly",)])
[('refused', 'NotKeeper'), ('done', None), ('refused', 'Down'), ('refused', 'BadValue')]
"""

MEETING = """
>>> from lettersonce.meeting import meet
>>> from lettersonce.town import Town
>>> town = Town(["anna", "bert"])
>>> room = town.found("anna", "tea", "Tea at four", ("bert",))
>>> town.write("anna", room, ("say", "who comes?"))
('anna', 2)
>>> meet(town, room)
10
>>> [letter.ref for letter in town.desk("bert").history(room)]
[('anna', 1), ('anna', 2)]
"""

BOARD = """
>>> from lettersonce.board import board_of
>>> from lettersonce.letters import Letter
>>> first = Letter("anna", 1, 1, (("anna", 1),), ("found", "tea", ("bert",)))
>>> second = Letter("anna", 2, 2, (("anna", 2),), ("say", "who comes?"))
>>> third = Letter("bert", 1, 3, (("anna", 2), ("bert", 1)), ("mark", ("anna", 2), "me"))
>>> board = board_of([first, second, third])
>>> board.title, [item.text for item in board], board.item(("anna", 2)).marks()
('tea', ['who comes?'], [('me', ('bert',))])
"""

SEARCH = """
>>> from lettersonce.search import words_of
>>> words_of("Tea at 4, tea!")
['4', 'at', 'tea']
"""

EXAM = """
>>> from lettersonce.exam import exam
>>> from lettersonce.letters import Letter
>>> first = Letter("anna", 1, 1, (("anna", 1),), ("found", "tea", ("bert",)))
>>> second = Letter("anna", 2, 2, (("anna", 2),), ("say", "who comes?"))
>>> exam([[first, second], [first]])
[]
>>> exam([[first, second], [second]])
[('gap', 1, 0)]
"""


class Examples(unittest.TestCase):
    def test_they_stand_in_the_document_word_for_word(self):
        document = pathlib.Path(__file__).resolve().parent.parent.parent / "shared" / "DOC.md"
        if not document.is_file():
            self.skipTest("the document is not here")
        told = document.read_text(encoding="utf-8")
        texts = [text for name, text in globals().items() if name.isupper() and type(text) is str]
        self.assertEqual(len(texts), told.count("```") // 2)
        for text in texts:
            self.assertIn("```" + text + "```", told)

    def assert_holds(self, text):
        example = doctest.DocTestParser().get_doctest(text, {}, "example", None, None)
        told = []
        results = doctest.DocTestRunner(verbose=False).run(example, out=told.append)
        self.assertEqual(results.failed, 0, "".join(told))
        self.assertEqual(results.attempted, text.count(">>> "))

    def test_names(self):
        self.assert_holds(NAMES)

    def test_bodies(self):
        self.assert_holds(BODIES)

    def test_letters(self):
        self.assert_holds(LETTERS)

    def test_folding(self):
        self.assert_holds(FOLDING)

    def test_headers(self):
        self.assert_holds(HEADERS)

    def test_mail(self):
        self.assert_holds(MAIL)

    def test_archive(self):
        self.assert_holds(ARCHIVE)

    def test_roll(self):
        self.assert_holds(ROLL)

    def test_ledger(self):
        self.assert_holds(LEDGER)

    def test_settling(self):
        self.assert_holds(SETTLING)

    def test_entry(self):
        self.assert_holds(ENTRY)

    def test_read_diary(self):
        self.assert_holds(READ_DIARY)

    def test_desk(self):
        self.assert_holds(DESK)

    def test_parcels(self):
        self.assert_holds(PARCELS)

    def test_post(self):
        self.assert_holds(POST)

    def test_scenario(self):
        self.assert_holds(SCENARIO)

    def test_meeting(self):
        self.assert_holds(MEETING)

    def test_board(self):
        self.assert_holds(BOARD)

    def test_search(self):
        self.assert_holds(SEARCH)

    def test_exam(self):
        self.assert_holds(EXAM)


if __name__ == "__main__":
    unittest.main()
