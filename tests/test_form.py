"""The package's files, held against the rules of the language that a look at them can tell."""

import ast
import builtins
import pathlib
import re
import unittest

import plainparty

PACKAGE = pathlib.Path(plainparty.__file__).parent
FILES = sorted(PACKAGE.rglob("*.py"))
ALLOWED_NAMES = (
    "len range enumerate zip min max sum abs sorted reversed int str bool list tuple dict set frozenset isinstance ord "
    "repr any all divmod ValueError KeyError IndexError LookupError ZeroDivisionError StopIteration Exception"
).split()
ALLOWED_METHODS = (
    "append clear copy count endswith extend find get index insert items join keys pop remove replace reverse "
    "setdefault split startswith strip update values bit_length"
).split()
BARRED_NODES = (
    ast.Import, ast.With, ast.Match, ast.Delete, ast.Global, ast.Nonlocal, ast.Assert, ast.Yield, ast.YieldFrom,
    ast.AsyncFunctionDef, ast.SetComp, ast.DictComp, ast.GeneratorExp, ast.NamedExpr, ast.Starred, ast.Div,
)
BARRED_WORDS = re.compile(
    r"\b(type|typing|enum|Enum|Flag|Generic|Protocol|ABC|namedtuple|NamedTuple|TypedDict)\b|dataclass|overload"
)


class Form(unittest.TestCase):
    def each_node(self):
        for file in FILES:
            for node in ast.walk(ast.parse(file.read_text())):
                yield node, f"{file.name}:{getattr(node, 'lineno', 0)}"

    def test_nothing_but_plain_files(self):
        self.assertIn(PACKAGE / "parties.py", FILES)
        for path in PACKAGE.rglob("*"):
            if "__pycache__" not in path.parts and not path.is_dir():
                self.assertRegex(path.name, r"^(__init__|[a-z][a-z0-9_]*)\.py$")

    def test_size_signs_and_words(self):
        for file in FILES:
            text = file.read_text()
            rows = text.splitlines()
            self.assertLessEqual(len(rows), 400)
            self.assertLessEqual(max(len(row) for row in rows), 120)
            self.assertIsNone(re.search(r"[^ -~\n]", text))
            self.assertIsNone(BARRED_WORDS.search(text))

    def test_functions_are_small_and_plain(self):
        for node, place in self.each_node():
            if isinstance(node, ast.FunctionDef):
                self.assertLessEqual(node.end_lineno - node.lineno + 1, 40, place)
                self.assertEqual(node.decorator_list, [], place)
                self.assertFalse(node.args.vararg or node.args.kwarg or node.args.kwonlyargs, place)

    def test_no_barred_step(self):
        for node, place in self.each_node():
            self.assertNotIsInstance(node, BARRED_NODES, place)
            if isinstance(node, (ast.For, ast.While)):
                self.assertEqual(node.orelse, [], place)
            if isinstance(node, ast.ImportFrom):
                self.assertRegex(node.module or "", r"^plainparty\.", place)
            if isinstance(node, ast.Constant):
                self.assertNotIsInstance(node.value, (float, complex, bytes), place)

    def test_names(self):
        for node, place in self.each_node():
            if isinstance(node, ast.Name):
                self.assertFalse(node.id.startswith("_"), place)
                if node.id in dir(builtins):
                    self.assertIn(node.id, ALLOWED_NAMES, place)
                    self.assertIsInstance(node.ctx, ast.Load, place)
            if isinstance(node, ast.arg):
                self.assertNotIn(node.arg, dir(builtins), place)

    def test_methods_of_pythons_own(self):
        own = {node.name for node, place in self.each_node() if isinstance(node, ast.FunctionDef)}
        for node, place in self.each_node():
            if isinstance(node, ast.Call) and isinstance(node.func, ast.Attribute):
                self.assertIn(node.func.attr, own | set(ALLOWED_METHODS), place)


if __name__ == "__main__":
    unittest.main()
