"""Point [1], as far as the code shows it, and the rules of the language that are easily checked."""

import ast
import builtins
import os
import unittest

ROOT = os.path.dirname(os.path.dirname(os.path.abspath(__file__)))
PACKAGE = os.path.join(ROOT, "notslower")

BUILTINS = {
    "len", "range", "enumerate", "zip", "min", "max", "sum", "abs", "sorted", "reversed", "int", "str", "bool",
    "list", "tuple", "dict", "set", "isinstance", "ord", "repr", "any", "all", "divmod", "ValueError",
    "KeyError", "ZeroDivisionError", "NotImplemented"}
METHODS = set(
    "append clear copy count endswith extend find get index insert isalnum isalpha isdigit islower isspace isupper "
    "items join keys ljust lower lstrip partition pop remove replace reverse rfind rjust rpartition rsplit rstrip "
    "setdefault split splitlines startswith strip update upper values zfill bit_length isascii __init__".split())
LIBRARY = {"heapq", "math", "itertools", "collections"}
BARRED = {
    "type", "typing", "typing_extensions", "enum", "Enum", "IntEnum", "StrEnum", "Flag", "IntFlag", "Generic",
    "Protocol", "ABC", "ABCMeta", "namedtuple", "NamedTuple", "TypedDict", "TYPE_CHECKING", "abstractmethod",
    "register", "mro", "elements", "open", "input", "law", "version_info", "with_traceback", "add_note", "exec",
    "eval", "compile", "globals", "locals", "vars", "super", "print", "id", "dir", "exit", "quit", "hash"}
STATEMENTS = (
    ast.Assign, ast.AugAssign, ast.If, ast.While, ast.For, ast.Return, ast.Break, ast.Continue, ast.Pass, ast.Raise,
    ast.Assert, ast.Delete, ast.Expr, ast.Try, ast.FunctionDef, ast.ClassDef, ast.ImportFrom)


def files():
    """The name and the text of each file of the package."""
    for name in sorted(os.listdir(PACKAGE)):
        if name != "__pycache__":
            with open(os.path.join(PACKAGE, name), encoding="utf-8") as source:
                yield name, source.read()


def nodes(kinds):
    """The file's name and the node, for each node of these kinds."""
    for name, text in files():
        for node in ast.walk(ast.parse(text)):
            if isinstance(node, kinds):
                yield name, node


def own_names():
    """The names of all functions and methods of the package."""
    return {node.name for _, node in nodes(ast.FunctionDef)}


class Language(unittest.TestCase):
    def test_there_are_only_files_of_the_language(self):
        names = [name for name, _ in files()]
        self.assertIn("__init__.py", names)
        for name in names:
            self.assertRegex(name, r"^[a-z0-9_]+\.py$")

    def test_sizes(self):
        for name, text in files():
            lines = text.split("\n")
            self.assertLessEqual(len(lines), 399, name)
            for line in lines:
                self.assertLessEqual(len(line), 120, (name, line))
        for name, node in nodes(ast.FunctionDef):
            self.assertLessEqual(node.end_lineno - node.lineno + 1, 40, (name, node.name))

    def test_signs(self):
        for name, text in files():
            for sign in text:
                self.assertTrue(sign == "\n" or " " <= sign <= "~", (name, sign))
        for name, node in nodes(ast.Constant):
            if isinstance(node.value, str):
                self.assertNotIn("%", node.value, name)
            self.assertNotIsInstance(node.value, (float, complex), name)

    def test_only_the_package_and_what_the_language_names_is_imported(self):
        for name, node in nodes((ast.Import, ast.ImportFrom)):
            self.assertIsInstance(node, ast.ImportFrom, name)
            self.assertEqual(node.level, 0, name)
            first = node.module.split(".")[0]
            self.assertTrue(first == "notslower" or node.module in LIBRARY, (name, node.module))
            self.assertNotIn("*", [alias.name for alias in node.names], name)

    def test_only_allowed_statements(self):
        for name, node in nodes(ast.stmt):
            self.assertIsInstance(node, STATEMENTS, (name, node.lineno))
        for name, node in nodes((ast.FunctionDef, ast.ClassDef)):
            self.assertEqual(node.decorator_list, [], (name, node.name))

    def test_module_level(self):
        for name, text in files():
            for node in ast.parse(text).body:
                kinds = (ast.Expr, ast.ImportFrom, ast.FunctionDef, ast.ClassDef, ast.Assign)
                self.assertIsInstance(node, kinds, (name, node.lineno))
                if isinstance(node, ast.Expr):
                    self.assertIsInstance(node.value, ast.Constant, (name, node.lineno))

    def test_only_known_methods_and_builtins_are_called(self):
        known = own_names()
        for name, node in nodes(ast.Call):
            if isinstance(node.func, ast.Attribute):
                self.assertIn(node.func.attr, METHODS | known, (name, node.lineno))

    def test_no_generator_expressions_and_no_sets_that_are_iterated(self):
        for name, node in nodes((ast.GeneratorExp, ast.Yield, ast.YieldFrom)):
            self.fail((name, node.lineno))
        for name, node in nodes((ast.For, ast.comprehension)):
            self.assertNotIsInstance(node.iter, (ast.Set, ast.SetComp), name)

    def test_names_that_are_barred(self):
        for name, node in nodes((ast.Name, ast.arg, ast.Attribute, ast.FunctionDef, ast.ClassDef)):
            told = [getattr(node, key) for key in ("id", "arg", "attr", "name") if hasattr(node, key)]
            for word in told:
                self.assertNotIn(word, BARRED, name)

    def test_no_builtin_is_given_another_meaning_and_no_other_one_is_used(self):
        everything = set(dir(builtins))
        for name, node in nodes(ast.Name):
            if node.id in everything:
                self.assertIsInstance(node.ctx, ast.Load, (name, node.id))
                self.assertIn(node.id, BUILTINS, (name, node.lineno))
        for name, node in nodes((ast.arg,)):
            self.assertNotIn(node.arg, everything, name)
        for name, node in nodes((ast.FunctionDef, ast.ClassDef)):
            self.assertNotIn(node.name, everything, name)

    def test_no_local_name_hides_an_import_or_a_class(self):
        for name, text in files():
            tree = ast.parse(text)
            taken = {alias.asname or alias.name for node in ast.walk(tree) if isinstance(node, ast.ImportFrom)
                     for alias in node.names}
            taken |= {node.name for node in ast.walk(tree) if isinstance(node, ast.ClassDef)}
            for node in ast.walk(tree):
                if isinstance(node, ast.Name) and isinstance(node.ctx, ast.Store):
                    self.assertNotIn(node.id, taken, (name, node.lineno))
                if isinstance(node, ast.arg):
                    self.assertNotIn(node.arg, taken, (name, node.lineno))

    def test_is_stands_only_with_plain_values(self):
        for name, node in nodes(ast.Compare):
            if any(isinstance(sign, (ast.Is, ast.IsNot)) for sign in node.ops):
                other = node.comparators[0]
                self.assertTrue(isinstance(other, ast.Constant) and other.value in (None, True, False), name)


if __name__ == "__main__":
    unittest.main()
