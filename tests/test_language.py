"""Those rules for the language of the package that are easily looked up in its code."""

import ast
import pathlib
import re
import unittest

PACKAGE = pathlib.Path(__file__).resolve().parent.parent / "lettersonce"
BUILTINS = """len range enumerate zip min max sum abs sorted reversed int str bool list tuple dict set isinstance ord repr any
all divmod iter ValueError TypeError KeyError IndexError LookupError type property staticmethod classmethod""".split()
EVERY_BUILTIN = set(dir(__import__("builtins")))
STATEMENTS = (ast.FunctionDef, ast.ClassDef, ast.Assign, ast.AugAssign, ast.If, ast.While, ast.For, ast.Return, ast.Break,
              ast.Continue, ast.Pass, ast.Raise, ast.Assert, ast.Delete, ast.Try, ast.Match, ast.Expr, ast.ImportFrom)
BARRED = """register mro elements open input law version_info with_traceback add_note attrgetter breakpoint builtins compile
copyright credits delattr dir eval exec exit gc getattr globals hasattr help id importlib license locals methodcaller os quit
setattr super vars sys map filter format print next round hash""".split()


def names_of(tree):
    """Return the names that are read, assigned, defined or passed by, attributes not among them."""
    names = []
    for node in ast.walk(tree):
        if isinstance(node, ast.Name):
            names.append(node.id)
        if isinstance(node, (ast.FunctionDef, ast.ClassDef)):
            names.append(node.name)
        if isinstance(node, (ast.arg, ast.keyword)):
            names.append(node.arg)
        if isinstance(node, ast.alias):
            names.append(node.asname or node.name)
    return names + captured(tree)


def captured(tree):
    """Return the names that the cases of a match capture."""
    return [node.name for node in ast.walk(tree) if isinstance(node, (ast.MatchAs, ast.MatchStar)) and node.name is not None]


def bound_inside(function):
    """Return the parameters and local variables of a function."""
    names = [node.arg for node in ast.walk(function) if isinstance(node, ast.arg)]
    names += [node.id for node in ast.walk(function) if isinstance(node, ast.Name) and isinstance(node.ctx, ast.Store)]
    return names + captured(function)


class Language(unittest.TestCase):
    def setUp(self):
        self.texts = {path.name: path.read_bytes().decode("utf-8") for path in sorted(PACKAGE.glob("*.py"))}
        self.trees = {name: ast.parse(text) for name, text in self.texts.items()}

    def assert_nowhere(self, found):
        self.assertEqual(list(found), [])

    def test_the_folder_has_nothing_but_files_of_code(self):
        for path in PACKAGE.iterdir():
            if path.name != "__pycache__":
                self.assertRegex(path.name, "^[a-z0-9_]+[.]py$")
        self.assertIn("__init__.py", self.texts)

    def test_characters_and_sizes(self):
        for name, text in self.texts.items():
            with self.subTest(name):
                self.assertRegex(text, r"\A[\n -~]*\Z")
                self.assertLessEqual(len(text.split("\n")), 399)
                self.assertLessEqual(max([len(line) for line in text.split("\n")]), 120)
                self.assertTrue(text.endswith("\n"))

    def test_functions_have_at_most_40_lines(self):
        for name, tree in self.trees.items():
            self.assert_nowhere([(name, node.name) for node in ast.walk(tree) if isinstance(node, ast.FunctionDef)
                                 and node.end_lineno - node.lineno >= 40])

    def test_statements(self):
        for name, tree in self.trees.items():
            self.assert_nowhere([(name, node.lineno) for node in ast.walk(tree) if isinstance(node, ast.stmt)
                                 and not isinstance(node, STATEMENTS)])

    def test_imports_come_from_the_file_that_defines_the_name(self):
        for name, tree in self.trees.items():
            for node in ast.walk(tree):
                self.assertNotIsInstance(node, ast.Import)
                if isinstance(node, ast.ImportFrom):
                    with self.subTest(f"{name}: {node.module}"):
                        self.assertIn(node, tree.body)
                        self.assertEqual(node.level, 0)
                        if node.module == "heapq":
                            self.assertLessEqual({alias.name for alias in node.names}, {"heappush", "heappop"})
                            continue
                        package, _, module = node.module.partition(".")
                        self.assertEqual(package, "lettersonce")
                        other = self.trees[module + ".py"].body
                        defined = [part.name for part in other if isinstance(part, (ast.FunctionDef, ast.ClassDef))]
                        defined += [part.targets[0].id for part in other if isinstance(part, ast.Assign)]
                        for alias in node.names:
                            self.assertIn(alias.name, defined)
                            self.assertIsNone(alias.asname)

    def test_no_two_files_import_from_each_other(self):
        imported = {name[:-3]: [node.module.partition(".")[2] or node.module for node in tree.body
                                if isinstance(node, ast.ImportFrom)] for name, tree in self.trees.items()}
        while imported:
            free = [name for name, others in imported.items() if not any([other in imported for other in others])]
            self.assertTrue(free, imported)
            imported = {name: others for name, others in imported.items() if name not in free}

    def test_module_level(self):
        for name, tree in self.trees.items():
            for node in tree.body:
                with self.subTest(f"{name}, line {node.lineno}"):
                    self.assertIsInstance(node, (ast.Expr, ast.ImportFrom, ast.FunctionDef, ast.ClassDef, ast.Assign))
                    if isinstance(node, ast.Expr):
                        self.assertIs(type(node.value.value), str)
                    if isinstance(node, ast.Assign):
                        self.assert_nowhere([call for call in ast.walk(node) if isinstance(call, (ast.Call, ast.ListComp))])

    def test_builtins(self):
        for name, tree in self.trees.items():
            used = [word for word in names_of(tree) if word in EVERY_BUILTIN and word not in BUILTINS]
            self.assert_nowhere([(name, word) for word in used])
            self.assert_nowhere([(name, word) for word in names_of(tree) if word in BARRED])

    def test_names(self):
        for name, tree in self.trees.items():
            for word in names_of(tree):
                self.assertRegex(word, "^(_|_?[a-zA-Z][a-zA-Z0-9_]*|__(init|len|iter|contains)__)$", name)
            self.assert_nowhere([(name, node.attr) for node in ast.walk(tree) if isinstance(node, ast.Attribute)
                                 and not re.fullmatch("_?[a-z][a-z0-9_]*", node.attr)
                                 and not re.fullmatch("type[(][a-z]+[)].__name__", ast.unparse(node))])

    def test_no_name_is_a_method_and_an_attribute(self):
        methods, attributes = set(), set()
        for tree in self.trees.values():
            for node in ast.walk(tree):
                if isinstance(node, ast.ClassDef):
                    methods |= {part.name for part in node.body if isinstance(part, ast.FunctionDef)}
                if isinstance(node, ast.Attribute) and isinstance(node.ctx, ast.Store):
                    attributes.add(node.attr)
        self.assertEqual(methods & attributes, set())

    def test_nothing_inside_a_function_hides_another_name(self):
        for name, tree in self.trees.items():
            taken = EVERY_BUILTIN | {alias.name for node in tree.body if isinstance(node, ast.ImportFrom)
                                     for alias in node.names}
            taken |= {node.name for node in tree.body if isinstance(node, (ast.ClassDef, ast.FunctionDef))}
            for function in [node for node in ast.walk(tree) if isinstance(node, ast.FunctionDef)]:
                self.assert_nowhere([(name, function.name, word) for word in bound_inside(function) if word in taken])

    def test_signs_that_are_not_used(self):
        for name, tree in self.trees.items():
            for node in ast.walk(tree):
                with self.subTest(f"{name}, line {getattr(node, 'lineno', '')}"):
                    self.assertNotIsInstance(node, (ast.Div, ast.Await, ast.GeneratorExp, ast.NamedExpr))
                    if isinstance(node, ast.Constant):
                        self.assertNotIsInstance(node.value, (float, complex))
                        self.assertNotIn("%", str(node.value))
                    if isinstance(node, ast.Compare) and isinstance(node.ops[0], (ast.Is, ast.IsNot)):
                        self.assertIn(node.comparators[0].value, (None, True, False))

    def test_handlers_name_errors_of_the_package(self):
        own = [node.name for node in self.trees["errors.py"].body if isinstance(node, ast.ClassDef)]
        for name, tree in self.trees.items():
            for node in ast.walk(tree):
                if isinstance(node, ast.ExceptHandler):
                    for caught in node.type.elts if isinstance(node.type, ast.Tuple) else [node.type]:
                        self.assertIn(caught.id, own, name)
                if isinstance(node, ast.Raise):
                    self.assertIn(node.exc.func.id, own, name)

    def test_methods_with_double_underscores(self):
        forms = {"__len__": "return len(self._", "__iter__": "return iter(self._"}
        for name, tree in self.trees.items():
            for node in ast.walk(tree):
                if isinstance(node, ast.FunctionDef) and node.name in forms:
                    with self.subTest(f"{name}, line {node.lineno}"):
                        self.assertEqual(len(node.body), 1)
                        self.assertTrue(ast.unparse(node.body[0]).startswith(forms[node.name]))
                if isinstance(node, ast.Call) and isinstance(node.func, ast.Name) and node.func.id == "iter":
                    self.assertIn("return " + ast.unparse(node), self.texts[name])

    def test_properties_and_questions_change_nothing(self):
        for name, tree in self.trees.items():
            for function in [node for node in ast.walk(tree) if isinstance(node, ast.FunctionDef)]:
                words = [word.id for word in function.decorator_list]
                if "property" in words or function.name in ("__contains__", "__len__", "__iter__"):
                    self.assert_nowhere([(name, node.lineno) for node in ast.walk(function)
                                         if isinstance(node, (ast.Attribute, ast.Subscript))
                                         and isinstance(node.ctx, (ast.Store, ast.Del))])

    def test_functions_that_yield(self):
        functions = [node for tree in self.trees.values() for node in ast.walk(tree) if isinstance(node, ast.FunctionDef)]
        words = [node.name for node in functions]
        for function in functions:
            yields = [node for node in ast.walk(function) if isinstance(node, (ast.Yield, ast.YieldFrom))]
            statements = [node.value for node in ast.walk(function) if isinstance(node, ast.Expr)]
            if yields:
                self.assertEqual(words.count(function.name), 1)
                self.assertTrue(all([node in statements for node in yields]), function.name)
                self.assertEqual(function.decorator_list, [])

    def test_captured_names_are_not_parameters(self):
        for name, tree in self.trees.items():
            for function in [node for node in ast.walk(tree) if isinstance(node, ast.FunctionDef)]:
                arguments = [node.arg for node in ast.walk(function) if isinstance(node, ast.arg)]
                self.assert_nowhere([(name, word) for word in captured(function) if word in arguments])

    def test_decorators(self):
        for name, tree in self.trees.items():
            for node in ast.walk(tree):
                if isinstance(node, (ast.FunctionDef, ast.ClassDef)):
                    for decorator in node.decorator_list:
                        self.assertIn(decorator.id, ["property", "staticmethod", "classmethod"], name)


if __name__ == "__main__":
    unittest.main()
