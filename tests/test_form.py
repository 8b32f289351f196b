"""The package's own files: the rules of form that a test can see."""

import ast
import pathlib
import re
import unittest

PACKAGE = pathlib.Path(__file__).resolve().parent.parent / "powerclasses"
FILES = sorted(path for path in PACKAGE.rglob("*") if path.is_file() and path.suffix != ".pyc")
STATEMENTS = (
    ast.Assign, ast.AugAssign, ast.If, ast.While, ast.For, ast.Return, ast.Break, ast.Continue, ast.Pass,
    ast.Raise, ast.Try, ast.Expr, ast.FunctionDef, ast.ClassDef, ast.ImportFrom,
)
OUT = (
    ast.Div, ast.Starred, ast.NamedExpr, ast.GeneratorExp, ast.SetComp, ast.DictComp, ast.Yield, ast.YieldFrom,
    ast.Await,
)
BUILT_IN = {
    "len", "range", "enumerate", "zip", "min", "max", "sum", "abs", "sorted", "reversed", "int", "str", "bool",
    "list", "tuple", "dict", "set", "isinstance", "ord", "repr", "any", "all", "divmod",
}
WORDS = re.compile(r"\b(type|typing|enum|Enum|Flag|Generic|Protocol|ABC|namedtuple)\b|dataclass|overload")


def names_bound(tree):
    """Every name that the file binds itself."""
    bound = set()
    for node in ast.walk(tree):
        if isinstance(node, (ast.FunctionDef, ast.ClassDef)):
            bound.add(node.name)
        elif isinstance(node, ast.arg):
            bound.add(node.arg)
        elif isinstance(node, ast.Name) and isinstance(node.ctx, ast.Store):
            bound.add(node.id)
        elif isinstance(node, ast.alias):
            bound.add(node.name)
    return bound


class Form(unittest.TestCase):
    def each(self):
        self.assertTrue(FILES)
        for path in FILES:
            text = path.read_bytes().decode("ascii")
            yield path, text, ast.parse(text, str(path))

    def test_files_and_signs(self):
        for path, text, tree in self.each():
            self.assertRegex(path.name, r"^[a-z_0-9]+\.py$")
            self.assertRegex(text, r"^[ -~\n]*$")
            self.assertIsNone(WORDS.search(text))

    def test_size(self):
        for path, text, tree in self.each():
            lines = text.split("\n")
            self.assertLessEqual(len(lines), 400)
            self.assertLessEqual(max(len(line) for line in lines), 120)
            for node in ast.walk(tree):
                if isinstance(node, ast.FunctionDef):
                    self.assertLessEqual(node.end_lineno - node.lineno + 1, 40, node.name)

    def test_statements_and_expressions(self):
        for path, text, tree in self.each():
            for node in ast.walk(tree):
                if isinstance(node, ast.stmt):
                    self.assertIsInstance(node, STATEMENTS)
                self.assertNotIsInstance(node, OUT)
                if isinstance(node, ast.Constant):
                    self.assertNotIsInstance(node.value, (float, complex, bytes))

    def test_names_and_imports(self):
        for path, text, tree in self.each():
            bound = names_bound(tree)
            self.assertEqual(bound & BUILT_IN, set())
            for name in bound - {"__init__"}:
                self.assertFalse(name.startswith("_"), name)
            for node in ast.walk(tree):
                if isinstance(node, ast.Name):
                    self.assertIn(node.id, bound | BUILT_IN)
                if isinstance(node, ast.ImportFrom):
                    self.assertEqual(node.level, 0)
                    self.assertTrue(node.module.startswith("powerclasses."), node.module)


if __name__ == "__main__":
    unittest.main()
