"""The package keeps to the measurable rules of its part of Python."""

import ast
import pathlib
import re
import unittest

PACKAGE = pathlib.Path(__file__).resolve().parent.parent / "writtensigns"
BANNED_WORDS = ("type", "typing", "typing_extensions", "enum", "Enum", "IntEnum", "StrEnum", "Flag", "IntFlag",
                "Generic", "Protocol", "ABC", "ABCMeta", "namedtuple", "NamedTuple", "TypedDict", "TYPE_CHECKING",
                "abstractmethod")
BANNED_NODES = (ast.With, ast.Match, ast.Delete, ast.Global, ast.Nonlocal, ast.Assert, ast.Yield, ast.YieldFrom,
                ast.AsyncFunctionDef, ast.Await, ast.SetComp, ast.DictComp, ast.GeneratorExp, ast.NamedExpr,
                ast.Starred, ast.Div, ast.Import, ast.AnnAssign)
OWN_NAMES = ("__init__", "__eq__", "__repr__", "__str__", "__len__")
BUILTINS = ("len range enumerate zip min max sum abs sorted reversed int str bool list tuple dict set frozenset "
            "isinstance ord repr any all divmod Exception ValueError KeyError").split()


def sources():
    return [(path, path.read_text(encoding="utf-8")) for path in sorted(PACKAGE.rglob("*.py"))]


def nodes():
    return [(path.name, node) for path, text in sources() for node in ast.walk(ast.parse(text))]


class Language(unittest.TestCase):
    def test_files(self):
        for path in PACKAGE.rglob("*"):
            if "__pycache__" not in path.parts:
                self.assertRegex(path.name, r"^[a-z0-9_]+\.py$")

    def test_signs_and_sizes(self):
        for path, text in sources():
            self.assertRegex(text, r"\A[ -~\n]*\Z", path.name)
            lines = text.split("\n")
            self.assertLessEqual(len(lines), 400, path.name)
            self.assertLessEqual(max(len(line) for line in lines), 120, path.name)

    def test_banned_words(self):
        for path, text in sources():
            for word in BANNED_WORDS:
                self.assertIsNone(re.search(rf"\b{word}\b", text), (path.name, word))
            self.assertIsNone(re.search("dataclass|overload|contextmanager", text), path.name)

    def test_functions(self):
        for name, node in nodes():
            if isinstance(node, ast.FunctionDef):
                self.assertLessEqual(node.end_lineno - node.lineno + 1, 40, (name, node.name))
                self.assertEqual(node.decorator_list, [])
                self.assertTrue(node.name in OWN_NAMES or not node.name.startswith("_"), (name, node.name))
                self.assertIsNone(node.args.vararg or node.args.kwarg, (name, node.name))

    def test_nodes(self):
        for name, node in nodes():
            self.assertNotIsInstance(node, BANNED_NODES, name)
            if isinstance(node, ast.Constant):
                self.assertNotIsInstance(node.value, (float, bytes, complex), name)
            if isinstance(node, ast.Expr):
                self.assertTrue(isinstance(node.value, ast.Call) or node.lineno == 1, (name, node.lineno))
            if isinstance(node, ast.Assign):
                self.assertEqual(len(node.targets), 1, (name, node.lineno))
            if isinstance(node, (ast.For, ast.While)):
                self.assertEqual(node.orelse, [], (name, node.lineno))

    def test_imports(self):
        for name, node in nodes():
            if isinstance(node, ast.ImportFrom):
                self.assertEqual(node.level, 0, name)
                self.assertTrue(node.module.startswith("writtensigns."), (name, node.module))

    def test_methods_and_values_have_different_names(self):
        methods = {node.name for name, owner in nodes() if isinstance(owner, ast.ClassDef)
                   for node in owner.body if isinstance(node, ast.FunctionDef)}
        values = {node.attr for name, node in nodes()
                  if isinstance(node, ast.Attribute) and isinstance(node.ctx, ast.Store)}
        self.assertEqual(methods & values, set())
        python_own = {word for owner in (str, int, list, dict, set, bytes, tuple) for word in dir(owner)}
        self.assertEqual((methods | values) & python_own, {"__init__"})

    def test_names(self):
        """Every name that is read is bound in its file, or one of Python's own that may be used."""
        for path, text in sources():
            tree = ast.parse(text)
            bound = set()
            for node in ast.walk(tree):
                if isinstance(node, (ast.FunctionDef, ast.ClassDef)):
                    bound.add(node.name)
                if isinstance(node, ast.arg):
                    bound.add(node.arg)
                if isinstance(node, ast.alias):
                    bound.add(node.name)
                if isinstance(node, ast.Name) and isinstance(node.ctx, ast.Store):
                    bound.add(node.id)
            self.assertEqual(sorted(bound & set(BUILTINS)), [], path.name)
            read = {node.id for node in ast.walk(tree) if isinstance(node, ast.Name)}
            self.assertEqual(sorted(read - bound - set(BUILTINS)), [], path.name)
            self.assertEqual([word for word in bound if word.startswith("_") and word not in OWN_NAMES], [])


if __name__ == "__main__":
    unittest.main()
