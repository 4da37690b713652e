"""What of LANGUAGE.md can be told by counting and by looking up words, asked of every file of the package."""

import ast
import os
import re
import unittest

PACKAGE = os.path.join(os.path.dirname(os.path.dirname(os.path.abspath(__file__))), "twosessions")
FORBIDDEN_WORDS = {"type", "typing", "typing_extensions", "enum", "Enum", "IntEnum", "StrEnum", "Flag", "IntFlag",
                   "Generic", "Protocol", "ABC", "ABCMeta", "namedtuple", "NamedTuple", "TypedDict",
                   "TYPE_CHECKING", "abstractmethod"}
FORBIDDEN_NODES = (ast.With, ast.Delete, ast.Global, ast.Nonlocal, ast.Assert, ast.Yield, ast.YieldFrom,
                   ast.GeneratorExp, ast.SetComp, ast.DictComp, ast.NamedExpr, ast.Starred, ast.Div, ast.Import,
                   ast.Match, ast.AsyncFunctionDef)
OWN_NAMES = {"len", "range", "enumerate", "zip", "min", "max", "sum", "abs", "sorted", "reversed", "int", "str",
             "bool", "list", "tuple", "dict", "set", "frozenset", "isinstance", "ord", "repr", "any", "all",
             "divmod", "Exception", "KeyError", "ZeroDivisionError"}


def sources():
    found = []
    for name in sorted(os.listdir(PACKAGE)):
        if name != "__pycache__":
            with open(os.path.join(PACKAGE, name), encoding="ascii", newline="") as file:
                found.append((name, file.read()))
    return found


class Language(unittest.TestCase):
    def test_files_and_signs(self):
        for name, source in sources():
            self.assertTrue(name == "__init__.py" or re.fullmatch(r"[a-z][a-z0-9_]*\.py", name), name)
            self.assertTrue(re.fullmatch(r"[ -~\n]*", source), name)

    def test_size(self):
        for name, source in sources():
            lines = source.splitlines()
            self.assertLessEqual(len(lines), 399, name)
            self.assertLessEqual(max([0] + [len(line) for line in lines]), 120, name)
            for node in ast.walk(ast.parse(source)):
                if isinstance(node, ast.FunctionDef):
                    self.assertLessEqual(node.end_lineno - node.lineno + 1, 40, (name, node.name))

    def test_words_and_statements(self):
        for name, source in sources():
            self.assertEqual(FORBIDDEN_WORDS & set(re.findall(r"\w+", source)), set(), name)
            for node in ast.walk(ast.parse(source)):
                self.assertNotIsInstance(node, FORBIDDEN_NODES, (name, getattr(node, "lineno", 0)))

    def test_names_of_pythons_own(self):
        import builtins
        for name, source in sources():
            for node in ast.walk(ast.parse(source)):
                if isinstance(node, ast.Name) and hasattr(builtins, node.id):
                    self.assertIn(node.id, OWN_NAMES, (name, node.lineno))
                    self.assertIsInstance(node.ctx, ast.Load, (name, node.lineno))
                if isinstance(node, ast.arg):
                    self.assertFalse(hasattr(builtins, node.arg), (name, node.lineno))

    def test_imports_are_the_packages_own(self):
        for name, source in sources():
            for node in ast.walk(ast.parse(source)):
                if isinstance(node, ast.ImportFrom):
                    self.assertTrue(node.level == 0 and node.module.startswith("twosessions."), name)


if __name__ == "__main__":
    unittest.main()
