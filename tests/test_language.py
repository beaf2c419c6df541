"""Guards some of the rules of the language to which the package keeps; the rules' numbers stand beside them."""

import ast
import re
import unittest
from pathlib import Path

PACKAGE = Path(__file__).resolve().parent.parent / "fewspaces"
FILES = sorted(PACKAGE.glob("*.py"))
OWN_NAMES = {
    "len", "range", "enumerate", "zip", "min", "max", "sum", "abs", "sorted", "reversed", "int", "str", "bool", "bytes",
    "list", "tuple", "dict", "set", "isinstance", "ord", "repr", "any", "all", "divmod", "ValueError", "KeyError",
    "IndexError", "LookupError", "ZeroDivisionError",
}
WORDS = ["type", "typing", "typing_extensions", "enum", "Enum", "IntEnum", "StrEnum", "Flag", "IntFlag", "Generic",
         "Protocol", "ABC", "ABCMeta", "namedtuple", "NamedTuple", "TypedDict", "TYPE_CHECKING", "abstractmethod"]
OUT = (ast.GeneratorExp, ast.NamedExpr, ast.With, ast.Global, ast.Nonlocal, ast.Yield, ast.YieldFrom, ast.Await,
       ast.AsyncFunctionDef, ast.Import, ast.Match, ast.Div, ast.MatMult)
METHODS = {"append", "extend", "index", "count", "get", "items", "insert", "join", "keys", "pop", "split", "values", "find",
           "add"}
# Methods and values of the package's own classes.
OWN_METHODS = {"say", "meant", "space", "parts"}


def nodes(file):
    return list(ast.walk(ast.parse(file.read_text(encoding="utf-8"))))


class Language(unittest.TestCase):
    def test_files_are_there(self):
        self.assertIn("__init__.py", [file.name for file in FILES])
        beside = [path.name for path in PACKAGE.iterdir() if path.name != "__pycache__"]
        self.assertEqual(sorted(beside), [file.name for file in FILES])

    def test_sizes_and_signs(self):
        # L10, L14
        for file in FILES:
            text = file.read_text(encoding="utf-8")
            self.assertLessEqual(len(text.splitlines()), 400, file.name)
            for line in text.split("\n"):
                self.assertLessEqual(len(line), 120, (file.name, line))
                self.assertTrue(all(" " <= sign <= "~" for sign in line), (file.name, line))
            for node in nodes(file):
                if isinstance(node, ast.FunctionDef):
                    self.assertLessEqual(node.end_lineno - node.lineno + 1, 40, (file.name, node.name))

    def test_words(self):
        # L17
        for file in FILES:
            text = file.read_text(encoding="utf-8")
            for word in WORDS:
                self.assertIsNone(re.search(rf"\b{word}\b", text), (file.name, word))

    def test_forms_that_are_out(self):
        # L4, L6, L7
        for file in FILES:
            for node in nodes(file):
                self.assertNotIsInstance(node, OUT, file.name)
                if isinstance(node, (ast.FunctionDef, ast.ClassDef)):
                    self.assertEqual(node.decorator_list, [], node.name)
                if isinstance(node, (ast.For, ast.While)):
                    self.assertEqual(node.orelse, [], file.name)
                if isinstance(node, ast.Constant):
                    self.assertNotIsInstance(node.value, (float, complex), file.name)

    def test_powers_and_signs_in_texts(self):
        # L27
        for file in FILES:
            for node in nodes(file):
                if isinstance(node, ast.BinOp) and isinstance(node.op, ast.Pow):
                    self.assertIsInstance(node.right, ast.Constant, file.name)
                if isinstance(node, ast.Constant) and isinstance(node.value, str):
                    self.assertNotIn("%", node.value, file.name)

    def test_imports(self):
        # L2, L16
        for file in FILES:
            for node in nodes(file):
                if isinstance(node, ast.ImportFrom):
                    self.assertEqual(node.level, 0)
                    self.assertTrue(node.module.startswith("fewspaces."), (file.name, node.module))
                    source = PACKAGE / (node.module.split(".")[1] + ".py")
                    defined = top_names(source)
                    for name in node.names:
                        self.assertIn(name.name, defined, (file.name, name.name))

    def test_names(self):
        # L8, L12, L15, L25
        for file in FILES:
            drawn = {name.name for node in nodes(file) if isinstance(node, ast.ImportFrom) for name in node.names}
            known = OWN_NAMES | drawn | top_names(file)
            for node in nodes(file):
                if isinstance(node, ast.Name):
                    self.assertRegex(node.id, r"^[A-Za-z][A-Za-z0-9_]*$")
                    if isinstance(node.ctx, ast.Store):
                        self.assertNotIn(node.id, OWN_NAMES | drawn, file.name)
                if isinstance(node, ast.arg):
                    self.assertNotIn(node.arg, OWN_NAMES | drawn, file.name)
                if isinstance(node, ast.Call) and isinstance(node.func, ast.Name):
                    self.assertIn(node.func.id, known, file.name)
                if isinstance(node, ast.Attribute):
                    self.assertIn(node.attr, METHODS | OWN_METHODS, file.name)


def top_names(file):
    found = set()
    for node in ast.parse(file.read_text(encoding="utf-8")).body:
        if isinstance(node, (ast.FunctionDef, ast.ClassDef)):
            found.add(node.name)
        if isinstance(node, ast.Assign):
            found.update(target.id for target in node.targets)
    return found


if __name__ == "__main__":
    unittest.main()
