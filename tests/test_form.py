"""The package's files, held against the rules of the language that it keeps to."""

import ast
import builtins
import re
import unittest
from pathlib import Path

PACKAGE = Path(__file__).resolve().parent.parent / "copyrods"
FILES = sorted(PACKAGE.rglob("*.py"))
MOST_LINES, MOST_FUNCTION_LINES, MOST_SIGNS = 400, 40, 120

OWN_NAMES = set("""len range enumerate zip min max sum abs sorted reversed int str bool list tuple dict set frozenset
    isinstance ord repr any all divmod Exception ValueError TypeError KeyError IndexError LookupError
    ZeroDivisionError ArithmeticError OverflowError RuntimeError NotImplementedError AttributeError
    StopIteration""".split())
OWN_METHODS = set("""append clear copy count endswith extend find get index insert isalnum isalpha isdigit islower
    isspace isupper items join keys ljust lower lstrip partition pop remove replace reverse rfind rjust rpartition
    rsplit rstrip setdefault split splitlines startswith strip update upper values zfill bit_length""".split())
PYTHONS_METHODS = {name for kind in (str, int, list, tuple, dict, set, bytes) for name in dir(kind)}
WORDS = """type typing typing_extensions enum Enum IntEnum StrEnum Flag IntFlag Generic Protocol ABC ABCMeta
    namedtuple NamedTuple TypedDict TYPE_CHECKING abstractmethod""".split()
PARTS_OF_WORDS = ("dataclass", "overload", "contextmanager")
KEPT_NAMES = ("__init__", "__eq__", "__repr__", "__str__", "__len__", "__all__", "__version__", "__name__")

STATEMENTS = (
    ast.Assign, ast.AugAssign, ast.If, ast.While, ast.For, ast.Return, ast.Break, ast.Continue, ast.Pass, ast.Raise,
    ast.Try, ast.Expr, ast.FunctionDef, ast.ClassDef, ast.ImportFrom,
)
EXPRESSIONS = (
    ast.Constant, ast.List, ast.Tuple, ast.Dict, ast.BinOp, ast.UnaryOp, ast.BoolOp, ast.Compare, ast.IfExp, ast.Call,
    ast.Attribute, ast.Subscript, ast.Slice, ast.Name, ast.ListComp, ast.JoinedStr, ast.FormattedValue, ast.Lambda,
)


def names_bound(tree):
    """All names that a file binds, with the line of each."""
    for node in ast.walk(tree):
        if isinstance(node, (ast.FunctionDef, ast.ClassDef)):
            yield node.name, node.lineno
        elif isinstance(node, ast.arg):
            yield node.arg, node.lineno
        elif isinstance(node, (ast.Name, ast.Attribute)) and isinstance(node.ctx, ast.Store):
            yield (node.id if isinstance(node, ast.Name) else node.attr), node.lineno


def functions_of(tree):
    return [node for node in ast.walk(tree) if isinstance(node, ast.FunctionDef)]


class Form(unittest.TestCase):
    def each_tree(self):
        for path in FILES:
            with self.subTest(file=path.name):
                yield ast.parse(path.read_text(encoding="utf-8"))

    def each_text(self):
        for path in FILES:
            with self.subTest(file=path.name):
                yield path.read_bytes().decode("utf-8")

    def test_files(self):
        others = [
            path.name for path in PACKAGE.rglob("*")
            if path.suffix != ".py" and "__pycache__" not in path.parts]
        self.assertEqual(others, [])
        self.assertIn(PACKAGE / "__init__.py", FILES)
        self.assertIn(PACKAGE / "workshop.py", FILES)
        for path in FILES:
            self.assertRegex(path.stem, r"\A([a-z][a-z0-9_]*|__init__|__main__)\Z")
            self.assertNotIn(path.stem, dir(builtins))

    def test_size_and_signs(self):
        for text in self.each_text():
            lines = text.split("\n")
            self.assertLessEqual(len(lines), MOST_LINES)
            self.assertLessEqual(max(map(len, lines)), MOST_SIGNS)
            self.assertRegex(text, r"\A[ -~\n]*\Z")

    def test_function_size(self):
        for tree in self.each_tree():
            for node in functions_of(tree):
                self.assertLessEqual(node.end_lineno - node.lineno + 1, MOST_FUNCTION_LINES, node.name)

    def test_words(self):
        for text in self.each_text():
            for word in WORDS:
                self.assertIsNone(re.search(rf"\b{word}\b", text), word)
            for part in PARTS_OF_WORDS:
                self.assertNotIn(part, text)

    def test_statements_and_expressions(self):
        for tree in self.each_tree():
            for node in ast.walk(tree):
                if isinstance(node, ast.stmt):
                    self.assertIsInstance(node, STATEMENTS, ast.dump(node))
                if isinstance(node, ast.expr):
                    self.assertIsInstance(node, EXPRESSIONS, ast.dump(node))
                self.assertNotIsInstance(node, (ast.Div, ast.MatMult))
                if isinstance(node, ast.Constant):
                    self.assertNotIsInstance(node.value, (float, complex, bytes))
                if isinstance(node, (ast.For, ast.While)):
                    self.assertEqual(node.orelse, [])
                if isinstance(node, ast.Assign):
                    self.assertEqual(len(node.targets), 1)
                    self.assertNotIsInstance(node.targets[0], (ast.Tuple, ast.List))

    def test_functions_and_classes(self):
        for tree in self.each_tree():
            for node in functions_of(tree):
                told = node.args
                self.assertEqual(
                    (told.vararg, told.kwarg, told.kwonlyargs, told.posonlyargs, node.decorator_list),
                    (None, None, [], [], []), node.name)
            for node in ast.walk(tree):
                if isinstance(node, ast.ClassDef):
                    self.assertLessEqual(len(node.bases), 1, node.name)
                    self.assertEqual(node.decorator_list, [], node.name)
                    for part in node.body:
                        self.assertIsInstance(part, (ast.FunctionDef, ast.Expr), node.name)

    def test_names(self):
        for tree in self.each_tree():
            for name, line in names_bound(tree):
                if name not in KEPT_NAMES:
                    self.assertRegex(name, r"\A[A-Za-z][A-Za-z0-9_]*\Z", f"line {line}")
                    self.assertNotIn(name, dir(builtins), f"line {line}")

    def test_pythons_own_names(self):
        for tree in self.each_tree():
            for node in ast.walk(tree):
                if isinstance(node, ast.Name) and node.id in dir(builtins):
                    self.assertIn(node.id, OWN_NAMES, f"line {node.lineno}")
                if isinstance(node, ast.Attribute) and node.attr in PYTHONS_METHODS:
                    self.assertIn(node.attr, OWN_METHODS, f"line {node.lineno}")

    def test_top_names_are_bound_once(self):
        for tree in self.each_tree():
            names = [alias.name for node in tree.body if isinstance(node, ast.ImportFrom) for alias in node.names]
            names += [node.name for node in tree.body if isinstance(node, (ast.FunctionDef, ast.ClassDef))]
            names += [target.id for node in tree.body if isinstance(node, ast.Assign) for target in node.targets]
            self.assertEqual(sorted(names), sorted(set(names)))

    def test_no_local_is_called_like_an_import_or_a_class(self):
        for tree in self.each_tree():
            taken = {alias.name for node in tree.body if isinstance(node, ast.ImportFrom) for alias in node.names}
            taken |= {node.name for node in tree.body if isinstance(node, ast.ClassDef)}
            for function in functions_of(tree):
                bound = {name for name, line in names_bound(function)} - {function.name}
                self.assertEqual(bound & taken, set(), function.name)

    def test_imports(self):
        for tree in self.each_tree():
            for node in ast.walk(tree):
                if isinstance(node, ast.ImportFrom):
                    self.assertIn(node, tree.body)
                    self.assertEqual(node.level, 0)
                    self.assertRegex(node.module, r"\Acopyrods\.[a-z_]+\Z")
                    for alias in node.names:
                        self.assertNotEqual(alias.name, "*")
                        self.assertIsNone(alias.asname)


if __name__ == "__main__":
    unittest.main()
