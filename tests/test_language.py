"""The rules of the package's language that can be seen by a plain look at its files."""

import ast
import builtins
import pathlib
import re
import unittest

PACKAGE = pathlib.Path(__file__).resolve().parent.parent / "fathersets"

FORBIDDEN_NODES = (
    ast.With, ast.Match, ast.Delete, ast.Global, ast.Nonlocal, ast.Assert, ast.Yield, ast.YieldFrom,
    ast.AsyncFunctionDef, ast.Await, ast.Import, ast.SetComp, ast.DictComp, ast.GeneratorExp, ast.NamedExpr,
    ast.Starred, ast.Div, ast.AnnAssign,
)
OWN_NAMES_OF_PYTHON = (
    "len range enumerate zip min max sum abs sorted reversed int str bool list tuple dict set frozenset "
    "isinstance ord repr any all divmod"
).split()
FORBIDDEN_WORDS = re.compile(
    r"\b(type|typing|typing_extensions|enum|Enum|IntEnum|StrEnum|Flag|IntFlag|Generic|Protocol|ABC|ABCMeta"
    r"|namedtuple|NamedTuple|TypedDict|TYPE_CHECKING|abstractmethod)\b|dataclass|overload|contextmanager"
)


def files():
    return sorted(path for path in PACKAGE.rglob("*") if path.is_file() and "__pycache__" not in path.parts)


class Files(unittest.TestCase):
    def test_there_are_files(self):
        self.assertIn("sets.py", [path.name for path in files()])

    def test_nothing_but_python_with_plain_names(self):
        for path in files():
            self.assertRegex(path.name, r"\A(__init__|__main__|[a-z][a-z0-9_]*)\.py\Z")

    def test_signs_and_size(self):
        for path in files():
            text = path.read_bytes().decode("ascii")
            rows = text.split("\n")
            self.assertRegex(text, r"\A[ -~\n]*\Z")
            self.assertLessEqual(len(rows), 400)
            self.assertLessEqual(max(len(row) for row in rows), 120)
            self.assertIsNone(FORBIDDEN_WORDS.search(text), path.name)


class Trees(unittest.TestCase):
    def nodes(self):
        return [(path.name, node) for path in files() for node in ast.walk(ast.parse(path.read_text()))]

    def test_forms_that_are_not_used(self):
        for name, node in self.nodes():
            self.assertNotIsInstance(node, FORBIDDEN_NODES, name)
            if isinstance(node, (ast.For, ast.While)):
                self.assertEqual(node.orelse, [], name)
            if isinstance(node, ast.Assign):
                self.assertEqual(len(node.targets), 1, name)
            if isinstance(node, ast.Constant):
                self.assertNotIsInstance(node.value, (float, bytes), name)

    def test_functions(self):
        for name, node in self.nodes():
            if isinstance(node, ast.FunctionDef):
                self.assertLessEqual(node.end_lineno - node.lineno + 1, 40, node.name)
                self.assertEqual(node.decorator_list, [], node.name)
                self.assertIsNone(node.args.vararg or node.args.kwarg, node.name)
                self.assertEqual(node.args.kwonlyargs, [], node.name)

    def test_imports_are_the_packages_own(self):
        for name, node in self.nodes():
            if isinstance(node, ast.ImportFrom):
                self.assertEqual(node.level, 0, name)
                self.assertRegex(node.module, r"\Afathersets\.[a-z_]+\Z")
                self.assertNotIn("*", [alias.name for alias in node.names])

    def test_names_of_python_that_are_not_used(self):
        others = [name for name in dir(builtins) if name.islower() and name not in OWN_NAMES_OF_PYTHON]
        for name, node in self.nodes():
            if isinstance(node, ast.Name):
                self.assertNotIn(node.id, others, name)
            if isinstance(node, ast.arg):
                self.assertNotIn(node.arg, others + OWN_NAMES_OF_PYTHON, name)


if __name__ == "__main__":
    unittest.main()
