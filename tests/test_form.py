"""The form of the package's files: the rules of the language that can be seen file by file."""

import ast
import pathlib
import re
import unittest

TOP = pathlib.Path(__file__).resolve().parent.parent
PACKAGE = TOP / "laidmarks"
FORBIDDEN_WORDS = (
    "type typing typing_extensions enum Enum IntEnum StrEnum Flag IntFlag Generic Protocol ABC ABCMeta namedtuple "
    "NamedTuple TypedDict TYPE_CHECKING abstractmethod"
).split()
FORBIDDEN_PARTS = ("dataclass", "overload", "contextmanager")
FORBIDDEN_NODES = (
    ast.GeneratorExp, ast.NamedExpr, ast.With, ast.Match, ast.Global, ast.Nonlocal, ast.Yield, ast.YieldFrom,
    ast.AsyncFunctionDef, ast.AsyncFor, ast.AsyncWith, ast.Await, ast.Import, ast.Div, ast.MatMult,
)
KNOWN = (
    "len range enumerate zip min max sum abs sorted reversed int str bool bytes list tuple dict set frozenset "
    "isinstance ord repr any all divmod Exception ValueError KeyError IndexError LookupError ZeroDivisionError "
    "StopIteration"
).split()


def files():
    return sorted(path for path in PACKAGE.rglob("*") if path.is_file() and "__pycache__" not in path.parts)


def trees():
    return [(path.name, ast.parse(path.read_text(encoding="utf-8"))) for path in files()]


def nodes_of(kinds):
    return [(name, node) for name, tree in trees() for node in ast.walk(tree) if isinstance(node, kinds)]


class Form(unittest.TestCase):
    def test_plain_python_files_alone(self):
        self.assertIn("__init__.py", [path.name for path in files()])
        for path in files():
            self.assertRegex(path.name, r"^([a-z][a-z0-9_]*|__init__|__main__)\.py$")

    def test_size_and_signs(self):
        for path in files():
            rows = path.read_text(encoding="utf-8").split("\n")
            self.assertLessEqual(len(rows), 401, path.name)
            for row in rows:
                self.assertRegex(row, r"^[ -~]{0,120}$", path.name)

    def test_defs_are_short(self):
        for name, node in nodes_of(ast.FunctionDef):
            self.assertLessEqual(node.end_lineno - node.lineno + 1, 40, (name, node.name))

    def test_words_that_stand_nowhere(self):
        for path in files():
            text = path.read_text(encoding="utf-8")
            self.assertEqual([word for word in FORBIDDEN_WORDS if re.search(rf"\b{word}\b", text)], [], path.name)
            self.assertEqual([part for part in FORBIDDEN_PARTS if part in text], [], path.name)

    def test_statements_and_values(self):
        for name, node in nodes_of(FORBIDDEN_NODES):
            self.fail(f"{name}: {ast.dump(node)}")
        for name, node in nodes_of((ast.For, ast.While)):
            self.assertEqual(node.orelse, [], name)
        for name, node in nodes_of(ast.Constant):
            self.assertNotIsInstance(node.value, (float, complex), name)
            self.assertNotIn("%", node.value if isinstance(node.value, str) else "", name)

    def test_plain_parameters(self):
        for name, node in nodes_of(ast.FunctionDef):
            self.assertEqual(node.decorator_list, [], (name, node.name))
            self.assertIsNone(node.args.vararg or node.args.kwarg, (name, node.name))
            self.assertEqual(node.args.posonlyargs, [], (name, node.name))

    def test_imports_of_the_package_alone(self):
        for name, node in nodes_of(ast.ImportFrom):
            self.assertEqual(node.level, 0, name)
            self.assertRegex(node.module, r"^(laidmarks\.[a-z_]+|__future__)$", name)
            self.assertNotIn("*", [alias.name for alias in node.names], name)

    def test_no_other_names_of_python_s_own(self):
        own = set(dir(__builtins__)) if not isinstance(__builtins__, dict) else set(__builtins__)
        for name, node in nodes_of(ast.Name):
            self.assertTrue(node.id in KNOWN or node.id not in own, (name, node.id))
            self.assertFalse(node.id.startswith("_"), (name, node.id))
        for name, node in nodes_of(ast.arg):
            self.assertNotIn(node.arg, own, name)


if __name__ == "__main__":
    unittest.main()
