"""The rules of LANGUAGE.md that can be read off a file at a glance, for every file of the package."""

import ast
import builtins
import re
import unittest
from pathlib import Path

PACKAGE = Path(__file__).resolve().parent.parent / "jointhold"

# L17: these words stand nowhere in a file.
WORDS_OUT = (
    "type typing typing_extensions enum Enum IntEnum StrEnum Flag IntFlag Generic Protocol ABC ABCMeta "
    "namedtuple NamedTuple TypedDict TYPE_CHECKING abstractmethod"
).split()
PIECES_OUT = ("dataclass", "overload", "contextmanager")

# L6 and L7: what stands in no file of the package.
NODES_OUT = (
    ast.With,
    ast.Match,
    ast.Delete,
    ast.Global,
    ast.Nonlocal,
    ast.Assert,
    ast.Yield,
    ast.YieldFrom,
    ast.AsyncFunctionDef,
    ast.Await,
    ast.SetComp,
    ast.DictComp,
    ast.GeneratorExp,
    ast.NamedExpr,
    ast.Starred,
    ast.Div,
    ast.Import,
)


# L8, without what only __main__.py may use and, by L27, without chr.
OWN_NAMES = (
    "len range enumerate zip min max sum abs sorted reversed int str bool list tuple dict set frozenset isinstance "
    "ord repr any all divmod Exception ValueError TypeError KeyError IndexError LookupError ZeroDivisionError "
    "ArithmeticError OverflowError RuntimeError NotImplementedError AttributeError StopIteration"
).split()

# L17: as a name, a method or a value, and as a name alone.
NEVER_NAMED = "register mro elements open input version_info with_traceback add_note".split()
NOT_AS_NAMES = (
    "attrgetter breakpoint builtins compile copyright credits delattr dir eval exec exit gc getattr globals hasattr "
    "help id importlib license locals methodcaller os quit setattr super type vars sys __name__"
).split()

# L25: the methods of Python's own values.
METHODS = (
    "append clear copy count endswith extend find get index insert isalnum isalpha isdigit islower isspace isupper "
    "items join keys ljust lower lstrip partition pop remove replace reverse rfind rjust rpartition rsplit rstrip "
    "setdefault split splitlines startswith strip update upper values zfill bit_length"
).split()


def package_files():
    return sorted(PACKAGE.glob("**/*.py"))


def trees():
    return {path.stem: ast.parse(path.read_text()) for path in package_files()}


def nodes_of(kinds):
    """Pairs of a file's name and a node, over the whole package."""
    return [(stem, node) for stem, tree in trees().items() for node in ast.walk(tree) if isinstance(node, kinds)]


def bound_names(node):
    """The names that a node binds by itself."""
    if isinstance(node, ast.arg):
        return [node.arg]
    if isinstance(node, ast.Name) and isinstance(node.ctx, ast.Store):
        return [node.id]
    if isinstance(node, (ast.FunctionDef, ast.ClassDef)):
        return [node.name]
    if isinstance(node, ast.ImportFrom):
        return [alias.asname or alias.name for alias in node.names]
    return []


def defined_at_the_top(tree):
    return [name for node in tree.body for part in ([node] if not isinstance(node, ast.Assign) else node.targets)
            for name in bound_names(part) if not isinstance(node, ast.ImportFrom)]


def methods_of(node):
    return [part.name for part in node.body if isinstance(part, ast.FunctionDef)]


class LanguageTest(unittest.TestCase):
    def test_only_python_files_lie_in_the_package(self):
        others = [path for path in PACKAGE.rglob("*") if path.suffix != ".py" and "__pycache__" not in path.parts]
        self.assertEqual(others, [])
        self.assertIn(PACKAGE / "__init__.py", package_files())

    def test_signs_and_sizes(self):
        for path in package_files():
            with self.subTest(path=path.name):
                text = path.read_bytes().decode("ascii")
                self.assertIsNone(re.search(r"[^\n -~]", text))
                rows = text.split("\n")
                self.assertLessEqual(len(rows), 400)
                self.assertLessEqual(max(len(row) for row in rows), 120)

    def test_words_that_are_not_used(self):
        for path in package_files():
            with self.subTest(path=path.name):
                text = path.read_text()
                self.assertEqual([word for word in WORDS_OUT if re.search(r"\b" + word + r"\b", text)], [])
                self.assertEqual([piece for piece in PIECES_OUT if piece in text], [])

    def test_imports_are_of_the_package_alone(self):
        for path in package_files():
            for node in ast.walk(ast.parse(path.read_text())):
                if isinstance(node, ast.ImportFrom):
                    with self.subTest(path=path.name, module=node.module):
                        self.assertEqual(node.level, 0)
                        self.assertTrue(node.module.startswith("jointhold."))

    def test_forms_that_are_not_used(self):
        for path in package_files():
            for node in ast.walk(ast.parse(path.read_text())):
                if isinstance(node, NODES_OUT):
                    self.fail(f"{path.name}: {node.__class__.__name__} in line {getattr(node, 'lineno', '?')}")

    def test_functions_have_at_most_forty_lines(self):
        for path in package_files():
            for node in ast.walk(ast.parse(path.read_text())):
                if isinstance(node, ast.FunctionDef):
                    with self.subTest(path=path.name, name=node.name):
                        self.assertLessEqual(node.end_lineno - node.lineno + 1, 40)
                        self.assertEqual(node.decorator_list, [])

    def test_names_of_pythons_own(self):
        for stem, node in nodes_of(ast.Name):
            if isinstance(node.ctx, ast.Load) and node.id in vars(builtins):
                self.assertIn(node.id, OWN_NAMES, stem)

    def test_names_that_are_bound(self):
        for stem, node in nodes_of(ast.AST):
            for name in bound_names(node):
                with self.subTest(file=stem, name=name):
                    self.assertRegex(name, r"^[A-Za-z][A-Za-z0-9_]*$|^__init__$")
                    self.assertNotIn(name, vars(builtins))
                    self.assertNotIn(name, NEVER_NAMED + NOT_AS_NAMES)

    def test_no_local_is_called_like_a_class_or_an_import(self):
        for stem, tree in trees().items():
            out = [name for node in ast.walk(tree) if isinstance(node, (ast.ImportFrom, ast.ClassDef))
                   for name in bound_names(node)]
            self.assertEqual(len(out), len(set(out)))
            for node in ast.walk(tree):
                if isinstance(node, (ast.arg, ast.Name)):
                    self.assertEqual([name for name in bound_names(node) if name in out], [], stem)

    def test_names_at_the_top_are_bound_once(self):
        for stem, tree in trees().items():
            names = defined_at_the_top(tree)
            self.assertEqual(len(names), len(set(names)), stem)

    def test_imports_are_from_the_file_that_defines_the_name(self):
        files = trees()
        for stem, node in nodes_of(ast.ImportFrom):
            for alias in node.names:
                with self.subTest(file=stem, name=alias.name):
                    self.assertIn(alias.name, defined_at_the_top(files[node.module.split(".")[1]]))

    def test_no_two_files_draw_from_one_another(self):
        drawn = {stem: [node.module.split(".")[1] for other, node in nodes_of(ast.ImportFrom) if other == stem]
                 for stem in trees()}
        while drawn:
            free = [stem for stem in drawn if not any(other in drawn for other in drawn[stem])]
            self.assertNotEqual(free, [], drawn)
            drawn = {stem: others for stem, others in drawn.items() if stem not in free}

    def test_what_is_imported_is_used(self):
        for stem, tree in trees().items():
            used = [node.id for node in ast.walk(tree) if isinstance(node, ast.Name)]
            used += [node.value.id for node in ast.walk(tree)
                     if isinstance(node, ast.Attribute) and isinstance(node.value, ast.Name)]
            for node in ast.walk(tree):
                if isinstance(node, ast.ImportFrom):
                    self.assertEqual([name for name in bound_names(node) if name not in used], [], stem)

    def test_methods_and_values(self):
        methods = [name for stem, node in nodes_of(ast.ClassDef) for name in methods_of(node)]
        values = [node.attr for stem, node in nodes_of(ast.Attribute) if isinstance(node.ctx, ast.Store)]
        self.assertEqual([name for name in values if name in methods], [])
        for stem, node in nodes_of(ast.ClassDef):
            names = methods_of(node)
            self.assertEqual(len(names), len(set(names)))
        python_own = [name for kind in (str, int, list, dict, set, bytes, tuple) for name in dir(kind)]
        for name in methods + values:
            if name != "__init__":
                self.assertNotIn(name, python_own + NEVER_NAMED)
        for stem, node in nodes_of(ast.Call):
            if isinstance(node.func, ast.Attribute):
                self.assertIn(node.func.attr, methods + METHODS, stem)

    def test_is_stands_beside_none_true_and_false_alone(self):
        for stem, node in nodes_of(ast.Compare):
            for sign, side in zip(node.ops, node.comparators):
                if isinstance(sign, (ast.Is, ast.IsNot)):
                    self.assertTrue(isinstance(side, ast.Constant) and side.value in (None, True, False), stem)

    def test_one_target_in_an_assignment(self):
        for stem, node in nodes_of(ast.Assign):
            self.assertEqual(len(node.targets), 1)
            self.assertIsInstance(node.targets[0], (ast.Name, ast.Attribute, ast.Subscript), stem)


if __name__ == "__main__":
    unittest.main()
