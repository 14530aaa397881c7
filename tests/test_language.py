"""The package keeps to a small part of Python: what of that can be seen in its files."""

import ast
import builtins
import re
import unittest
from pathlib import Path

PACKAGE = Path(__file__).resolve().parent.parent / "farcraft"
FILES = sorted(PACKAGE.glob("**/*.py"))
TEXTS = [path.read_text(encoding="utf-8") for path in FILES]
SOURCES = [(text, ast.parse(text)) for text in TEXTS]

STATEMENTS = (
    ast.Assign, ast.AugAssign, ast.If, ast.While, ast.For, ast.Return, ast.Break, ast.Continue, ast.Pass, ast.Raise,
    ast.Try, ast.Expr, ast.FunctionDef, ast.ClassDef, ast.ImportFrom)
NOT_USED = (
    ast.GeneratorExp, ast.SetComp, ast.DictComp, ast.NamedExpr, ast.Starred, ast.Yield,
    ast.YieldFrom, ast.Await, ast.Div, ast.MatMult, ast.AnnAssign)
OWN_NAMES = (
    "len range enumerate zip min max sum abs sorted reversed int str bool list tuple dict set frozenset isinstance "
    "ord repr any all divmod").split()
METHODS = (
    "append clear copy count endswith extend find get index insert isalnum isalpha isdigit islower isspace isupper "
    "items join keys ljust lower lstrip partition pop remove replace reverse rfind rjust rpartition rsplit rstrip "
    "setdefault split splitlines startswith strip update upper values zfill bit_length").split()
NAMES_OUT = ("register", "mro", "elements", "open", "input", "version_info", "with_traceback", "add_note")
WORDS_OUT = (
    "type typing typing_extensions enum Enum IntEnum StrEnum Flag IntFlag Generic Protocol ABC ABCMeta namedtuple "
    "NamedTuple TypedDict TYPE_CHECKING abstractmethod").split()


def bound_names(tree):
    """Each name that is bound anywhere in the file: functions, classes, imports, parameters, locals."""
    names = []
    for node in ast.walk(tree):
        if isinstance(node, (ast.FunctionDef, ast.ClassDef)):
            names.append(node.name)
        elif isinstance(node, ast.arg):
            names.append(node.arg)
        elif isinstance(node, ast.alias):
            names.append(node.asname or node.name)
        elif isinstance(node, ast.Name) and not isinstance(node.ctx, ast.Load):
            names.append(node.id)
    return names


class Language(unittest.TestCase):
    def test_files(self):
        self.assertIn(PACKAGE / "__init__.py", FILES)
        self.assertIn(PACKAGE / "commands.py", FILES)
        for path in PACKAGE.glob("**/*"):
            if "__pycache__" not in path.parts and not path.is_dir():
                self.assertRegex(path.name, r"^[a-z0-9_]+\.py$")

    def test_signs_and_sizes(self):
        for text, tree in SOURCES:
            lines = text.split("\n")
            self.assertLessEqual(len(lines), 400)
            self.assertLessEqual(max(len(line) for line in lines), 120)
            self.assertRegex(text, r"\A[ -~\n]*\Z")
            for node in ast.walk(tree):
                if isinstance(node, ast.FunctionDef):
                    self.assertLessEqual(node.end_lineno - node.lineno + 1, 40, node.name)

    def test_statements(self):
        for text, tree in SOURCES:
            for node in ast.walk(tree):
                self.assertNotIsInstance(node, NOT_USED)
                if isinstance(node, ast.stmt):
                    self.assertIsInstance(node, STATEMENTS)
                if isinstance(node, (ast.For, ast.While)):
                    self.assertEqual(node.orelse, [])
                if isinstance(node, ast.Assign):
                    self.assertEqual(len(node.targets), 1)
                if isinstance(node, ast.Try):
                    self.assertEqual(node.finalbody, [])
                if isinstance(node, ast.FunctionDef):
                    self.assertEqual(node.decorator_list, [])
                    self.assertIsNone(node.args.vararg or node.args.kwarg)
                    self.assertEqual(node.args.kwonlyargs, [])
                if isinstance(node, ast.Constant):
                    self.assertNotIsInstance(node.value, (float, complex, bytes))

    def test_imports(self):
        for text, tree in SOURCES:
            for node in ast.walk(tree):
                if isinstance(node, ast.ImportFrom):
                    self.assertIn(node, tree.body)
                    self.assertEqual(node.level, 0)
                    self.assertTrue(node.module.startswith("farcraft."), node.module)
                    self.assertNotIn("*", [alias.name for alias in node.names])

    def test_names(self):
        for text, tree in SOURCES:
            bound = bound_names(tree)
            for name in bound:
                if name != "__init__":
                    self.assertRegex(name, r"^[A-Za-z][A-Za-z0-9_]*$")
                    self.assertNotIn(name, dir(builtins))
                self.assertNotIn(name, NAMES_OUT)
            for node in ast.walk(tree):
                if isinstance(node, ast.Name) and isinstance(node.ctx, ast.Load):
                    self.assertIn(node.id, bound + OWN_NAMES)
            top = [name for node in tree.body for name in bound_at_top(node)]
            self.assertEqual(len(top), len(set(top)))

    def test_methods(self):
        own = []
        for text, tree in SOURCES:
            own += [node.name for node in ast.walk(tree) if isinstance(node, ast.FunctionDef)]
        for text, tree in SOURCES:
            for node in ast.walk(tree):
                if isinstance(node, ast.Call) and isinstance(node.func, ast.Attribute):
                    self.assertIn(node.func.attr, own + METHODS)

    def test_words(self):
        for text, tree in SOURCES:
            words = re.findall(r"\w+", text)
            self.assertEqual([word for word in words if word in WORDS_OUT], [])
            self.assertNotRegex(text, "dataclass|overload|contextmanager")

    def test_methods_are_no_values(self):
        methods = []
        stored = []
        for text, tree in SOURCES:
            for node in ast.walk(tree):
                if isinstance(node, ast.ClassDef):
                    methods += [one.name for one in node.body if isinstance(one, ast.FunctionDef)]
                elif isinstance(node, ast.Attribute) and isinstance(node.ctx, ast.Store):
                    stored.append(node.attr)
        self.assertEqual(sorted(set(methods) & set(stored)), [])


def bound_at_top(node):
    if isinstance(node, (ast.FunctionDef, ast.ClassDef)):
        return [node.name]
    if isinstance(node, ast.ImportFrom):
        return [alias.asname or alias.name for alias in node.names]
    if isinstance(node, ast.Assign):
        return [node.targets[0].id]
    return []


if __name__ == "__main__":
    unittest.main()
