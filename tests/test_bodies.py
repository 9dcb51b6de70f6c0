"""Tests of lettersonce.bodies: points 1.5 and 1.6."""

import unittest

from lettersonce.bodies import is_act, is_body, target, text_of

from samples import BODIES, GREATEST, Touchy, TouchyText, TouchyTuple, odd_things

# The kinds under which the parts of the sample of a kind make a body, too.
FITS = {
    "found": ["found"],
    "say": ["say"],
    "reply": ["reply", "edit"],
    "edit": ["reply", "edit"],
    "recall": ["recall"],
    "mark": ["mark", "reply", "edit"],
    "title": ["title", "say"],
    "add": ["add", "cut", "hand", "say", "title"],
    "cut": ["add", "cut", "hand", "say", "title"],
    "hand": ["add", "cut", "hand", "say", "title"],
    "seen": ["seen"],
}
WRONG_NAMES = ["", "Anna", "7anna", "anna ", " anna", "anna\n", "an-na", "a" * 13, b"anna", None, True, 7, ["anna"],
               ("anna",)]
WRONG_TITLES = ["t" * 61, "a\nb", "a\tb", "\n", "caf\u00e9", b"Tea", None, True, 7, ["Tea"], ("Tea",)]
WRONG_TEXTS = ["", "t" * 401, "a\tb", "\t", "caf\u00e9", "a\rb", b"hello", None, True, 7, ["hello"], ("hello",)]
WRONG_REFS = [("anna", 0), ("anna", True), ("anna", GREATEST + 1), ("anna", "1"), ("Anna", 1), ("", 1), ("anna",),
              ("anna", 1, 1), (1, "anna"), ["anna", 1], (), "anna", 1, None, True, (("anna", 1),), {"anna": 1}]
WRONG_MEMBERS = [("carl", "bert"), ("bert", "bert"), ("bert", "carl", "carl"), ("bert", "dora", "carl"), ["bert"], [],
                 {}, {"bert": True}, set(), "bert", "", None, True, 0, ("Bert",), ("bert", ""), ("bert", 7),
                 (7,), (None,), (True,), ("bert", None), (("bert",),), (["bert"],), ("a" * 13,), ("bert", "c d")]


def members(many):
    return tuple([f"m{number:02d}" for number in range(many)])


class IsBody(unittest.TestCase):
    def assert_none(self, kind, part, wrong):
        """Assert that the sample of a kind is no body with any of the wrong things as this part."""
        body = BODIES[kind]
        for thing in wrong:
            with self.subTest(f"{kind}, part {part}: {thing!r}"):
                self.assertIs(is_body(body[:part] + (thing,) + body[part + 1:]), False)

    def test_a_body_of_each_kind(self):
        for kind, body in BODIES.items():
            with self.subTest(kind):
                self.assertIs(is_body(body), True)

    def test_a_list_in_its_place(self):
        for kind, body in BODIES.items():
            with self.subTest(kind):
                self.assertIs(is_body(list(body)), False)
                self.assertIs(is_body((body,)), False)

    def test_one_part_fewer(self):
        for kind, body in BODIES.items():
            for part in range(len(body)):
                with self.subTest(f"{kind} without part {part}"):
                    self.assertIs(is_body(body[:part] + body[part + 1:]), False)

    def test_one_part_more(self):
        for kind, body in BODIES.items():
            for more in (None, "", "bert", ("anna", 1), (), body[-1], kind):
                for part in range(len(body) + 1):
                    with self.subTest(f"{kind} with {more!r} as part {part}"):
                        self.assertIs(is_body(body[:part] + (more,) + body[part:]), False)

    def test_the_parts_under_another_kind(self):
        for kind, body in BODIES.items():
            for other in BODIES:
                with self.subTest(f"the parts of {kind} under {other}"):
                    self.assertIs(is_body((other, *body[1:])), other in FITS[kind])

    def test_no_kind(self):
        for kind, body in BODIES.items():
            wrong = ["", "shout", "letters", kind + " ", " " + kind, kind + "s", kind[:-1], kind.title(), kind.upper(),
                     kind.encode(), None, True, False, 0, 1, [kind], (kind,), {}, object()]
            for thing in wrong:
                with self.subTest(f"{thing!r} for {kind}"):
                    self.assertIs(is_body((thing, *body[1:])), False)

    def test_the_name(self):
        for kind in ("add", "cut", "hand"):
            self.assert_none(kind, 1, WRONG_NAMES)
            for length in range(1, 13):
                self.assertIs(is_body((kind, "n" * length)), True)
            self.assertIs(is_body((kind, "n" * 13)), False)

    def test_the_word_of_a_mark(self):
        self.assert_none("mark", 2, WRONG_NAMES)
        self.assertIs(is_body(("mark", ("anna", 1), "w" * 12)), True)
        self.assertIs(is_body(("mark", ("anna", 1), "w" * 13)), False)

    def test_the_title(self):
        for kind in ("found", "title"):
            self.assert_none(kind, 1, WRONG_TITLES)
            for length in (0, 1, 60, 61, 400):
                with self.subTest(f"{kind} with a title of {length}"):
                    self.assertIs(is_body((kind, " " * length, *BODIES[kind][2:])), length <= 60)

    def test_the_text(self):
        for kind in ("say", "reply", "edit"):
            part = len(BODIES[kind]) - 1
            self.assert_none(kind, part, WRONG_TEXTS)
            for length in (0, 1, 60, 61, 399, 400, 401):
                with self.subTest(f"{kind} with a text of {length}"):
                    self.assertIs(is_body((*BODIES[kind][:part], "\n" * length)), 1 <= length <= 400)

    def test_the_ref(self):
        for kind in ("reply", "edit", "recall", "mark"):
            self.assert_none(kind, 1, WRONG_REFS)
            for ref in (("a", 1), ("a" * 12, GREATEST)):
                with self.subTest(f"{kind} with {ref}"):
                    self.assertIs(is_body((kind, ref, *BODIES[kind][2:])), True)

    def test_the_members(self):
        self.assert_none("found", 2, WRONG_MEMBERS)
        for good in ((), ("bert",), ("a", "a0", "a1", "aa", "b"), ("anna", "anna1", "annab"), ("z9", "za", "zz")):
            with self.subTest(good):
                self.assertIs(is_body(("found", "Tea", good)), True)

    def test_the_number_of_members(self):
        for many in range(20):
            with self.subTest(many):
                self.assertIs(is_body(("found", "Tea", members(many))), many <= 15)

    def test_any_two_neighbours_out_of_order(self):
        for at in range(14):
            names = list(members(15))
            names[at], names[at + 1] = names[at + 1], names[at]
            with self.subTest(f"swapped at {at}"):
                self.assertIs(is_body(("found", "Tea", tuple(names))), False)
            names[at] = names[at + 1]
            with self.subTest(f"twice the same at {at}"):
                self.assertIs(is_body(("found", "Tea", tuple(names))), False)

    def test_any_object(self):
        for index, thing in enumerate(odd_things()):
            with self.subTest(f"odd thing {index}"):
                self.assertIs(is_body(thing), False)
                self.assertIs(is_body((thing,)), False)
                self.assertIs(is_body((thing, "bert")), False)

    def test_any_object_as_a_part(self):
        for kind, body in BODIES.items():
            for part in range(1, len(body)):
                for thing in [Touchy(), {}, [], object(), (Touchy(),), (Touchy(), Touchy()), ("bert", Touchy())]:
                    with self.subTest(f"{kind}, part {part}"):
                        self.assertIs(is_body(body[:part] + (thing,) + body[part + 1:]), False)

    def test_objects_of_classes_of_their_own_give_true_or_false(self):
        for thing in (TouchyTuple(("seen",)), (TouchyText("seen"),), ("found", "Tea", TouchyTuple(("bert",))),
                      ("found", "Tea", (TouchyText("bert"), "carl")), ("recall", TouchyTuple(("anna", 1))),
                      ("say", TouchyText("hello"))):
            self.assertIn(is_body(thing), (True, False))

    def test_what_is_passed_stays(self):
        for thing in (["say", "hello"], ("found", "Tea", ["carl", "bert"]), ("recall", ["anna", 1]), {"say": "hello"}):
            before = repr(thing)
            is_body(thing)
            self.assertEqual(repr(thing), before)


class PartsOfABody(unittest.TestCase):
    def test_acts(self):
        for kind, body in BODIES.items():
            with self.subTest(kind):
                self.assertIs(is_act(body), kind in ("add", "cut", "hand"))

    def test_a_word_that_is_like_an_act_makes_none(self):
        for body in (("say", "add"), ("title", "cut"), ("mark", ("anna", 1), "hand"), ("reply", ("anna", 1), "add")):
            with self.subTest(body):
                self.assertIs(is_act(body), False)

    def test_targets(self):
        expected = {"reply": ("anna", 3), "edit": ("bert", 1), "recall": ("anna", 4), "mark": ("anna", 2)}
        for kind, body in BODIES.items():
            with self.subTest(kind):
                self.assertEqual(target(body), expected.get(kind))

    def test_texts(self):
        expected = {"say": "Hello\nthere", "reply": "one\ntwo", "edit": "one\ntwo"}
        for kind, body in BODIES.items():
            with self.subTest(kind):
                self.assertEqual(text_of(body), expected.get(kind))

    def test_a_title_is_no_text(self):
        self.assertIsNone(text_of(("title", "Tea")))
        self.assertIsNone(text_of(("found", "Tea", ())))


if __name__ == "__main__":
    unittest.main()
