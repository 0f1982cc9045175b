"""The rules of LANGUAGE.md that can be read off a file at a glance, for every file of the package."""

import ast
import re
import unittest
from pathlib import Path

PACKAGE = Path(__file__).resolve().parent.parent / "jointhold"

# L17: these words stand nowhere in a file.
WORDS_OUT = (
    "type typing typing_extensions enum Enum IntEnum StrEnum Flag IntFlag Generic Protocol ABC ABCMeta "
    "namedtuple NamedTuple TypedDict TYPE_CHECKING abstractmethod"
).split()
PIECES_OUT = ("dataclass", "overload", "contextmanager")

# L6 and L7: what stands in no file of the package.
NODES_OUT = (
    ast.With,
    ast.Match,
    ast.Delete,
    ast.Global,
    ast.Nonlocal,
    ast.Assert,
    ast.Yield,
    ast.YieldFrom,
    ast.AsyncFunctionDef,
    ast.Await,
    ast.SetComp,
    ast.DictComp,
    ast.GeneratorExp,
    ast.NamedExpr,
    ast.Starred,
    ast.Div,
    ast.Import,
)


def package_files():
    return sorted(PACKAGE.glob("**/*.py"))


class LanguageTest(unittest.TestCase):
    def test_only_python_files_lie_in_the_package(self):
        others = [path for path in PACKAGE.rglob("*") if path.suffix != ".py" and "__pycache__" not in path.parts]
        self.assertEqual(others, [])
        self.assertIn(PACKAGE / "__init__.py", package_files())

    def test_signs_and_sizes(self):
        for path in package_files():
            with self.subTest(path=path.name):
                text = path.read_bytes().decode("ascii")
                self.assertIsNone(re.search(r"[^\n -~]", text))
                rows = text.split("\n")
                self.assertLessEqual(len(rows), 400)
                self.assertLessEqual(max(len(row) for row in rows), 120)

    def test_words_that_are_not_used(self):
        for path in package_files():
            with self.subTest(path=path.name):
                text = path.read_text()
                self.assertEqual([word for word in WORDS_OUT if re.search(r"\b" + word + r"\b", text)], [])
                self.assertEqual([piece for piece in PIECES_OUT if piece in text], [])

    def test_imports_are_of_the_package_alone(self):
        for path in package_files():
            for node in ast.walk(ast.parse(path.read_text())):
                if isinstance(node, ast.ImportFrom):
                    with self.subTest(path=path.name, module=node.module):
                        self.assertEqual(node.level, 0)
                        self.assertTrue(node.module.startswith("jointhold."))

    def test_forms_that_are_not_used(self):
        for path in package_files():
            for node in ast.walk(ast.parse(path.read_text())):
                if isinstance(node, NODES_OUT):
                    self.fail(f"{path.name}: {node.__class__.__name__} in line {getattr(node, 'lineno', '?')}")

    def test_functions_have_at_most_forty_lines(self):
        for path in package_files():
            for node in ast.walk(ast.parse(path.read_text())):
                if isinstance(node, ast.FunctionDef):
                    with self.subTest(path=path.name, name=node.name):
                        self.assertLessEqual(node.end_lineno - node.lineno + 1, 40)
                        self.assertEqual(node.decorator_list, [])


if __name__ == "__main__":
    unittest.main()
