"""Each name of the interface stands in its file, with its arguments."""

import ast
import importlib
import inspect
import pathlib
import unittest

PACKAGE = pathlib.Path(__file__).resolve().parent.parent / "lettersonce"
FUNCTIONS = {
    "names": {"is_name": ["thing"], "is_number": ["thing"], "is_text": ["thing"], "is_title": ["thing"],
              "is_ref": ["thing"], "is_room": ["thing"]},
    "bodies": {"is_body": ["thing"], "is_act": ["body"], "target": ["body"], "text_of": ["body"]},
    "letters": {"is_letter": ["thing"], "by_key": ["letters"]},
    "folding": {"fold": ["line", "width"], "unfold": ["lines"]},
    "headers": {"header_lines": ["letter"], "read_headers": ["lines", "text"]},
    "mail": {"mail_lines": ["letter"], "read_mail": ["lines", "at"]},
    "archive": {"archive": ["letters"], "read_archive": ["text"], "read_beginning": ["text"]},
    "roll": {"roll_of": ["founder", "rows"]},
    "covers": {"seen_by": ["ledger", "name", "ref"], "seen_by_all": ["ledger", "ref"]},
    "settling": {"settled": ["ledger"], "tail": ["ledger"]},
    "diary": {"entry": ["room", "letter"], "read_diary": ["text"]},
    "parcels": {"is_parcel": ["thing"]},
    "scenario": {"perform": ["town", "deed"], "run": ["town", "deeds"]},
    "meeting": {"meet": ["town", "room"]},
    "board": {"board_of": ["letters"]},
    "threads": {"walk": ["board"], "replies": ["board", "ref"], "below": ["board", "ref"], "path": ["board", "ref"]},
    "search": {"words_of": ["text"], "plain_find": ["boards", "query"]},
    "exam": {"exam": ["histories"]},
}
CLASSES = {
    "errors": {name: {} for name in ["RoomError", "BadBody", "BadLetter", "BadMail", "BadValue", "Contradiction", "Down",
                                     "Exists", "NotKeeper", "NotMember", "Unknown"]},
    "letters": {"Letter": {"__init__": ["self", "author", "number", "stamp", "seen", "body"], "ref": ["self"],
                           "key": ["self"], "count": ["self", "name"], "has_seen": ["self", "ref"], "value": ["self"],
                           "from_value": ["value"]}},
    "roll": {"Roll": {"members": ["self"], "cuts": ["self"], "is_known": ["self", "name"], "is_member": ["self", "name"],
                      "came_by": ["self", "name"], "limit": ["self", "name"], "counts": ["self", "ref"]}},
    "ledger": {"Ledger": {"__init__": ["self", "founding"], "roll": ["self"], "top": ["self"], "held": ["self", "name"],
                          "authors": ["self"], "counts": ["self"], "letter": ["self", "ref"], "letters": ["self"],
                          "__len__": ["self"], "__iter__": ["self"], "waiting": ["self"], "take": ["self", "letter"],
                          "next_letter": ["self", "author", "body"]}},
    "history": {"History": {"__init__": ["self"], "renew": ["self", "ledger"], "letters": ["self"], "__len__": ["self"],
                            "__iter__": ["self"]}},
    "desk": {"Desk": {"__init__": ["self", "name", "diary"], "diary": ["self"], "saved": ["self"],
                      "found": ["self", "word", "title", "members"], "write": ["self", "room", "body"],
                      "take": ["self", "room", "letter"], "save": ["self"], "rooms": ["self"], "ledger": ["self", "room"],
                      "history": ["self", "room"], "tail": ["self", "room"], "have": ["self", "room"],
                      "lacking": ["self", "room", "counts"], "handle": ["self", "sender", "parcel"]}},
    "post": {"Post": {"__init__": ["self"], "put": ["self", "sender", "receiver", "parcel"], "parcel": ["self", "number"],
                      "lose": ["self", "number"], "numbers": ["self"], "__len__": ["self"], "__iter__": ["self"]}},
    "town": {"Town": {"__init__": ["self", "names"], "is_up": ["self", "name"], "desk": ["self", "name"],
                      "kept": ["self", "name"], "found": ["self", "name", "word", "title", "members"],
                      "write": ["self", "name", "room", "body"], "save": ["self", "name"],
                      "ask": ["self", "name", "other", "room"], "deliver": ["self", "number"], "lose": ["self", "number"],
                      "stop": ["self", "name", "keep"], "start": ["self", "name"]}},
    "board": {"Item": {"ref": ["self"], "marks": ["self"]},
              "Board": {"item": ["self", "ref"], "__contains__": ["self", "ref"], "__len__": ["self"], "__iter__": ["self"],
                        "notices": ["self"]}},
    "inbox": {"Inbox": {"__init__": ["self", "name"], "mark_read": ["self", "room", "count"], "read": ["self", "room"],
                        "unread": ["self", "room", "letters"], "mentions": ["self", "room", "letters"]}},
    "search": {"Index": {"__init__": ["self", "boards"], "find": ["self", "query"]}},
}
DECORATORS = {"ref": "property", "key": "property", "from_value": "staticmethod", "roll": "property", "top": "property",
              "diary": "property", "saved": "property"}


def definitions(nodes, kind):
    return {node.name: node for node in nodes if isinstance(node, kind)}


def arguments(node):
    return [argument.arg for argument in node.args.posonlyargs + node.args.args + node.args.kwonlyargs]


class Interface(unittest.TestCase):
    def tree(self, module):
        return ast.parse((PACKAGE / f"{module}.py").read_text(encoding="utf-8"))

    def test_functions(self):
        for module, functions in FUNCTIONS.items():
            defined = definitions(self.tree(module).body, ast.FunctionDef)
            for name, expected in functions.items():
                with self.subTest(f"{module}.{name}"):
                    self.assertIn(name, defined)
                    self.assertEqual(arguments(defined[name]), expected)
                    called = getattr(importlib.import_module(f"lettersonce.{module}"), name)
                    self.assertEqual(list(inspect.signature(called).parameters), expected)

    def test_classes_and_their_methods(self):
        for module, classes in CLASSES.items():
            defined = definitions(self.tree(module).body, ast.ClassDef)
            for name, methods in classes.items():
                self.assertIn(name, defined)
                own = definitions(defined[name].body, ast.FunctionDef)
                for method, expected in methods.items():
                    with self.subTest(f"{module}.{name}.{method}"):
                        self.assertIn(method, own)
                        self.assertEqual(arguments(own[method]), expected)
                        decorators = [decorator.id for decorator in own[method].decorator_list]
                        self.assertEqual(decorators, [DECORATORS[method]] if method in DECORATORS else [])

    def test_the_width(self):
        assigned = [node.targets[0].id for node in self.tree("folding").body if isinstance(node, ast.Assign)]
        self.assertIn("WIDTH", assigned)


if __name__ == "__main__":
    unittest.main()
