"""The rules of LANGUAGE.md that can be seen by looking over the files of the package."""

import ast
import builtins
import re
import unittest
from pathlib import Path

PACKAGE = Path(__file__).resolve().parent.parent / "frothwane"

ALLOWED_BUILTINS = set(
    "len range enumerate zip min max sum abs sorted reversed int str bool bytes list tuple dict set frozenset"
    " isinstance ord repr any all divmod super property staticmethod classmethod Exception ValueError TypeError"
    " KeyError IndexError LookupError ZeroDivisionError ArithmeticError OverflowError RuntimeError"
    " NotImplementedError AttributeError StopIteration NotImplemented True False None __name__".split()
)
BARRED_WORDS = (
    r"\b(type|typing|typing_extensions|enum|Enum|IntEnum|StrEnum|Flag|IntFlag|Generic|Protocol|ABC|ABCMeta"
    r"|namedtuple|NamedTuple|TypedDict|TYPE_CHECKING|abstractmethod)\b|dataclass|overload|contextmanager"
)
BUILTIN_METHODS = set(
    "append clear copy count endswith extend find get index insert isalnum isalpha isdigit islower isspace isupper items"
    " join keys ljust lower lstrip partition pop remove replace reverse rfind rjust rpartition rsplit rstrip setdefault"
    " split splitlines startswith strip update upper values zfill bit_length title capitalize swapcase casefold center"
    " expandtabs removeprefix removesuffix rindex isascii isdecimal isnumeric istitle isidentifier isprintable"
    " translate sort add discard".split()
)
BARRED_NAMES = set("register mro elements open input version_info with_traceback add_note".split())


def files():
    return sorted(PACKAGE.rglob("*.py"))


def trees():
    return [(path.name, ast.parse(path.read_text(encoding="utf-8"))) for path in files()]


def bound_names(node):
    """The names that one node of a tree gives a meaning to."""
    if isinstance(node, ast.Name) and isinstance(node.ctx, ast.Store):
        return [node.id]
    if isinstance(node, ast.arg):
        return [node.arg]
    if isinstance(node, (ast.FunctionDef, ast.ClassDef)):
        return [node.name]
    return []


class LanguageTest(unittest.TestCase):
    def each_node(self, kinds):
        """All nodes of these kinds, each with the name of its file."""
        return [(name, node) for name, tree in trees() for node in ast.walk(tree) if isinstance(node, kinds)]

    def test_l1_the_folder_holds_plain_files_only(self):
        found = [path for path in PACKAGE.rglob("*") if "__pycache__" not in path.parts]
        self.assertIn(PACKAGE / "__init__.py", found)
        for path in found:
            if path.is_file():
                self.assertRegex(path.name, r"^(__init__|__main__|[a-z][a-z0-9_]*)\.py$")

    def test_l2_l16_imports_are_from_the_package_and_by_name(self):
        self.assertEqual([], [(name, node.lineno) for name, node in self.each_node(ast.Import) if name != "__main__.py"])
        for name, node in self.each_node(ast.ImportFrom):
            with self.subTest((name, node.lineno)):
                self.assertEqual(0, node.level)
                self.assertRegex(node.module, r"^(__future__|frothwane\.[a-z][a-z0-9_]*)$")
                self.assertNotIn("*", [alias.name for alias in node.names])

    def test_l10_sizes(self):
        for path in files():
            lines = path.read_text(encoding="utf-8").split("\n")
            self.assertLessEqual(len(lines), 401, path.name)
            for at, line in enumerate(lines, start=1):
                self.assertLessEqual(len(line), 120, (path.name, at))
        for name, node in self.each_node(ast.FunctionDef):
            self.assertLessEqual(node.end_lineno - node.lineno + 1, 40, (name, node.name))

    def test_l14_l17_l27_characters_and_words(self):
        for path in files():
            text = path.read_text(encoding="utf-8")
            self.assertIsNone(re.search(r"[^ -~\n]", text), path.name)
            self.assertIsNone(re.search(BARRED_WORDS, text), path.name)
        for name, node in self.each_node(ast.Constant):
            if isinstance(node.value, str):
                self.assertNotIn("%", node.value, (name, node.lineno))

    def test_l7_no_floats(self):
        for name, node in self.each_node(ast.Constant):
            self.assertNotIsInstance(node.value, (float, complex), (name, node.lineno))
        for name, node in self.each_node(ast.Div):
            self.fail((name, "a division that gives a float"))

    def test_l8_only_the_listed_builtins(self):
        for name, node in self.each_node(ast.Name):
            if node.id in dir(builtins) and name != "__main__.py":
                self.assertIn(node.id, ALLOWED_BUILTINS, (name, node.lineno))

    def test_l12_l15_l17_names(self):
        for name, tree in trees():
            for node in ast.walk(tree):
                for bound in bound_names(node):
                    with self.subTest((name, bound)):
                        self.assertRegex(bound, r"^([A-Za-z][A-Za-z0-9_]*|__[a-z]+__)$")
                        self.assertNotIn(bound, BARRED_NAMES)
                        if not isinstance(node, ast.FunctionDef):
                            self.assertNotIn(bound, dir(builtins))

    def test_l15_nothing_has_the_name_of_an_import_of_its_file(self):
        for name, tree in trees():
            imported = [alias.asname or alias.name for node in ast.walk(tree) if isinstance(node, ast.ImportFrom)
                        for alias in node.names]
            self.assertEqual(len(set(imported)), len(imported), name)
            for node in ast.walk(tree):
                for bound in bound_names(node):
                    self.assertNotIn(bound, imported, (name, node.lineno))

    def test_l6_statements_that_are_not_allowed(self):
        barred = (ast.Global, ast.AsyncFunctionDef, ast.AsyncFor, ast.AsyncWith, ast.Await)
        self.assertEqual([], [(name, node.lineno) for name, node in self.each_node(barred)])

    def own_methods(self):
        return {item.name for name, node in self.each_node(ast.ClassDef) for item in node.body
                if isinstance(item, ast.FunctionDef)}

    def own_attributes(self):
        return {node.attr for name, node in self.each_node(ast.Attribute) if isinstance(node.ctx, ast.Store)}

    def test_l18_l25_l26_methods_and_attributes(self):
        methods, attributes = self.own_methods(), self.own_attributes()
        self.assertEqual(set(), methods & attributes)
        for kind in (str, int, list, dict, set, bytes, tuple):
            self.assertEqual(set(), {name for name in methods | attributes if name in dir(kind) and name[0] != "_"})
        for name, node in self.each_node(ast.Attribute):
            self.assertIn(node.attr, methods | attributes | BUILTIN_METHODS, (name, node.lineno))

    def test_l5_double_underscore_methods(self):
        self.assertEqual({"__init__"}, {name for name in self.own_methods() if name.startswith("_")})

    def test_l3_l15_module_level(self):
        kinds = (ast.Expr, ast.ImportFrom, ast.FunctionDef, ast.ClassDef, ast.Assign)
        for name, tree in trees():
            for node in tree.body:
                self.assertIsInstance(node, kinds, (name, node.lineno))
                if isinstance(node, ast.Expr):
                    self.assertIsInstance(node.value, ast.Constant, (name, node.lineno))
                if isinstance(node, ast.Assign):
                    inner = [part for part in ast.walk(node.value) if isinstance(part, (ast.List, ast.Dict, ast.Set))]
                    self.assertLessEqual(len(inner), 1, (name, node.lineno))
                    calls = [part for part in ast.walk(node.value) if isinstance(part, ast.Call)]
                    self.assertEqual([], calls, (name, node.lineno))

    def test_l16_no_two_files_import_from_each_other(self):
        leads = {name: {node.module.split(".")[-1] + ".py" for node in ast.walk(tree)
                        if isinstance(node, ast.ImportFrom)} for name, tree in trees()}
        done = set()
        while len(done) < len(leads):
            ready = {name for name in leads if name not in done and leads[name] <= done}
            self.assertTrue(ready, set(leads) - done)
            done |= ready

    def test_l22_l23_nothing_that_is_iterated_at_once_is_stored(self):
        for name, node in self.each_node((ast.Assign, ast.Return)):
            if isinstance(node.value, ast.Call):
                called = node.value.func
                word = called.id if isinstance(called, ast.Name) else getattr(called, "attr", "")
                self.assertNotIn(word, ("zip", "enumerate", "reversed", "range", "items", "keys", "values"),
                                 (name, node.lineno))

    def test_l19_only_own_errors_are_caught(self):
        own = {node.name for name, node in self.each_node(ast.ClassDef) if name == "errors.py"}
        for name, node in self.each_node(ast.ExceptHandler):
            self.assertIn(node.type.id, own | {"KeyError"}, (name, node.lineno))

    def test_l20_is_stands_only_by_none_true_and_false(self):
        for name, node in self.each_node(ast.Compare):
            for sign, right in zip(node.ops, node.comparators):
                if isinstance(sign, (ast.Is, ast.IsNot)):
                    plain = isinstance(right, ast.Constant) and right.value in (None, True, False)
                    self.assertTrue(plain, (name, node.lineno))


if __name__ == "__main__":
    unittest.main()
