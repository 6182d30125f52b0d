"""The package's files, held against the rules of the language that it keeps to."""

import ast
import builtins
import re
import unittest
from pathlib import Path

PACKAGE = Path(__file__).resolve().parent.parent / "copyrods"
FILES = sorted(PACKAGE.rglob("*.py"))
MOST_LINES, MOST_FUNCTION_LINES, MOST_SIGNS = 400, 40, 120

OWN_NAMES = set("""len range enumerate zip min max sum abs sorted reversed int str bool list tuple dict set frozenset
    isinstance ord repr any all divmod Exception ValueError TypeError KeyError IndexError LookupError
    ZeroDivisionError ArithmeticError OverflowError RuntimeError NotImplementedError AttributeError
    StopIteration""".split())
OWN_METHODS = set("""append clear copy count endswith extend find get index insert isalnum isalpha isdigit islower
    isspace isupper items join keys ljust lower lstrip partition pop remove replace reverse rfind rjust rpartition
    rsplit rstrip setdefault split splitlines startswith strip update upper values zfill bit_length""".split())
PYTHONS_METHODS = {name for kind in (str, int, list, tuple, dict, set, bytes) for name in dir(kind)}
WORDS = """type typing typing_extensions enum Enum IntEnum StrEnum Flag IntFlag Generic Protocol ABC ABCMeta
    namedtuple NamedTuple TypedDict TYPE_CHECKING abstractmethod""".split()
PARTS_OF_WORDS = ("dataclass", "overload", "contextmanager")
KEPT_NAMES = ("__init__", "__eq__", "__repr__", "__str__", "__len__", "__all__", "__version__", "__name__")

STATEMENTS = (
    ast.Assign, ast.AugAssign, ast.If, ast.While, ast.For, ast.Return, ast.Break, ast.Continue, ast.Pass, ast.Raise,
    ast.Try, ast.Expr, ast.FunctionDef, ast.ClassDef, ast.ImportFrom,
)
EXPRESSIONS = (
    ast.Constant, ast.List, ast.Tuple, ast.Dict, ast.BinOp, ast.UnaryOp, ast.BoolOp, ast.Compare, ast.IfExp, ast.Call,
    ast.Attribute, ast.Subscript, ast.Slice, ast.Name, ast.ListComp, ast.JoinedStr, ast.FormattedValue, ast.Lambda,
)


def names_bound(tree):
    """All names that a file binds, with the line of each."""
    for node in ast.walk(tree):
        if isinstance(node, (ast.FunctionDef, ast.ClassDef)):
            yield node.name, node.lineno
        elif isinstance(node, ast.arg):
            yield node.arg, node.lineno
        elif isinstance(node, (ast.Name, ast.Attribute)) and isinstance(node.ctx, ast.Store):
            yield (node.id if isinstance(node, ast.Name) else node.attr), node.lineno


WALKED_NAMES = ("range", "zip", "enumerate", "reversed")
WALKED_METHODS = ("items", "keys", "values")
WALKING_NAMES = ("list", "tuple", "dict", "sorted", "sum", "any", "all", "enumerate", "zip", "min", "max")
NAMES_NOT_USED = set("""register mro elements open input version_info with_traceback add_note attrgetter breakpoint
    builtins compile copyright credits delattr dir eval exec exit gc getattr globals hasattr help id importlib license
    locals methodcaller os quit setattr super vars sys __name__ chr print format format_map""".split())


def is_call_of(node, names):
    return isinstance(node, ast.Call) and isinstance(node.func, ast.Name) and node.func.id in names


def is_call_of_method(node, names):
    return isinstance(node, ast.Call) and isinstance(node.func, ast.Attribute) and node.func.attr in names


def walked_on_the_spot(tree):
    """What stands behind an in of a for or a comprehension, or first in a call that walks it."""
    places = [node.iter for node in ast.walk(tree) if isinstance(node, (ast.For, ast.comprehension))]
    return places + [node.args[0] for node in ast.walk(tree) if is_call_of(node, WALKING_NAMES) and node.args]


def is_plain_value(node):
    """Whether a value of a file's top is a whole number, a text, or a tuple of these."""
    if isinstance(node, ast.Tuple):
        return all(is_plain_value(part) for part in node.elts)
    if isinstance(node, ast.UnaryOp):
        return isinstance(node.op, ast.USub) and is_plain_value(node.operand)
    return isinstance(node, ast.Constant)


def functions_of(tree):
    return [node for node in ast.walk(tree) if isinstance(node, ast.FunctionDef)]


class Form(unittest.TestCase):
    def each_tree(self):
        for path in FILES:
            with self.subTest(file=path.name):
                yield ast.parse(path.read_text(encoding="utf-8"))

    def each_text(self):
        for path in FILES:
            with self.subTest(file=path.name):
                yield path.read_bytes().decode("utf-8")

    def test_files(self):
        others = [
            path.name for path in PACKAGE.rglob("*")
            if path.suffix != ".py" and "__pycache__" not in path.parts]
        self.assertEqual(others, [])
        self.assertIn(PACKAGE / "__init__.py", FILES)
        self.assertIn(PACKAGE / "workshop.py", FILES)
        for path in FILES:
            self.assertRegex(path.stem, r"\A([a-z][a-z0-9_]*|__init__|__main__)\Z")
            self.assertNotIn(path.stem, dir(builtins))

    def test_size_and_signs(self):
        for text in self.each_text():
            lines = text.split("\n")
            self.assertLessEqual(len(lines), MOST_LINES)
            self.assertLessEqual(max(map(len, lines)), MOST_SIGNS)
            self.assertRegex(text, r"\A[ -~\n]*\Z")

    def test_function_size(self):
        for tree in self.each_tree():
            for node in functions_of(tree):
                self.assertLessEqual(node.end_lineno - node.lineno + 1, MOST_FUNCTION_LINES, node.name)

    def test_words(self):
        for text in self.each_text():
            for word in WORDS:
                self.assertIsNone(re.search(rf"\b{word}\b", text), word)
            for part in PARTS_OF_WORDS:
                self.assertNotIn(part, text)

    def test_statements_and_expressions(self):
        for tree in self.each_tree():
            for node in ast.walk(tree):
                if isinstance(node, ast.stmt):
                    self.assertIsInstance(node, STATEMENTS, ast.dump(node))
                if isinstance(node, ast.expr):
                    self.assertIsInstance(node, EXPRESSIONS, ast.dump(node))
                self.assertNotIsInstance(node, (ast.Div, ast.MatMult))
                if isinstance(node, ast.Constant):
                    self.assertNotIsInstance(node.value, (float, complex, bytes))
                if isinstance(node, (ast.For, ast.While)):
                    self.assertEqual(node.orelse, [])
                if isinstance(node, ast.Assign):
                    self.assertEqual(len(node.targets), 1)
                    self.assertNotIsInstance(node.targets[0], (ast.Tuple, ast.List))

    def test_functions_and_classes(self):
        for tree in self.each_tree():
            for node in functions_of(tree):
                told = node.args
                self.assertEqual(
                    (told.vararg, told.kwarg, told.kwonlyargs, told.posonlyargs, node.decorator_list),
                    (None, None, [], [], []), node.name)
            for node in ast.walk(tree):
                if isinstance(node, ast.ClassDef):
                    self.assertLessEqual(len(node.bases), 1, node.name)
                    self.assertEqual(node.decorator_list, [], node.name)
                    for part in node.body:
                        self.assertIsInstance(part, (ast.FunctionDef, ast.Expr), node.name)

    def test_names(self):
        for tree in self.each_tree():
            for name, line in names_bound(tree):
                if name not in KEPT_NAMES:
                    self.assertRegex(name, r"\A[A-Za-z][A-Za-z0-9_]*\Z", f"line {line}")
                    self.assertNotIn(name, dir(builtins), f"line {line}")

    def test_pythons_own_names(self):
        for tree in self.each_tree():
            for node in ast.walk(tree):
                if isinstance(node, ast.Name) and node.id in dir(builtins):
                    self.assertIn(node.id, OWN_NAMES, f"line {node.lineno}")
                if isinstance(node, ast.Attribute) and node.attr in PYTHONS_METHODS:
                    self.assertIn(node.attr, OWN_METHODS, f"line {node.lineno}")

    def test_top_names_are_bound_once(self):
        for tree in self.each_tree():
            names = [alias.name for node in tree.body if isinstance(node, ast.ImportFrom) for alias in node.names]
            names += [node.name for node in tree.body if isinstance(node, (ast.FunctionDef, ast.ClassDef))]
            names += [target.id for node in tree.body if isinstance(node, ast.Assign) for target in node.targets]
            self.assertEqual(sorted(names), sorted(set(names)))

    def test_no_local_is_called_like_an_import_or_a_class(self):
        for tree in self.each_tree():
            taken = {alias.name for node in tree.body if isinstance(node, ast.ImportFrom) for alias in node.names}
            taken |= {node.name for node in tree.body if isinstance(node, ast.ClassDef)}
            for function in functions_of(tree):
                bound = {name for name, line in names_bound(function)} - {function.name}
                self.assertEqual(bound & taken, set(), function.name)

    def test_the_top_of_a_file(self):
        for tree in self.each_tree():
            self.assertIsNotNone(ast.get_docstring(tree))
            for node in tree.body[1:]:
                self.assertIsInstance(node, (ast.ImportFrom, ast.FunctionDef, ast.ClassDef, ast.Assign))
                if isinstance(node, ast.Assign):
                    self.assertTrue(is_plain_value(node.value), f"line {node.lineno}")

    def test_comprehensions(self):
        for tree in self.each_tree():
            for node in ast.walk(tree):
                if isinstance(node, ast.ListComp):
                    self.assertEqual(len(node.generators), 1, f"line {node.lineno}")
                    self.assertLessEqual(len(node.generators[0].ifs), 1, f"line {node.lineno}")

    def test_is_stands_beside_none_true_and_false_alone(self):
        for tree in self.each_tree():
            for node in ast.walk(tree):
                if isinstance(node, ast.Compare) and isinstance(node.ops[0], (ast.Is, ast.IsNot)):
                    beside = [part.value for part in node.comparators if isinstance(part, ast.Constant)]
                    self.assertEqual(len(beside), 1, f"line {node.lineno}")
                    self.assertIn(beside[0], (None, True, False), f"line {node.lineno}")

    def test_no_annotations_and_no_keywords(self):
        for tree in self.each_tree():
            for node in ast.walk(tree):
                self.assertNotIsInstance(node, (ast.AnnAssign, ast.keyword))
                if isinstance(node, ast.arg):
                    self.assertIsNone(node.annotation, f"line {node.lineno}")
                if isinstance(node, ast.FunctionDef):
                    self.assertIsNone(node.returns, f"line {node.lineno}")

    def test_names_that_are_not_used(self):
        for tree in self.each_tree():
            for node in ast.walk(tree):
                if isinstance(node, (ast.Name, ast.Attribute)):
                    name = node.id if isinstance(node, ast.Name) else node.attr
                    self.assertNotIn(name, NAMES_NOT_USED, f"line {node.lineno}")

    def test_classes_are_only_called(self):
        for tree in self.each_tree():
            classes = {node.name for node in ast.walk(tree) if isinstance(node, ast.ClassDef)}
            called = [node.func for node in ast.walk(tree) if isinstance(node, ast.Call)]
            for node in ast.walk(tree):
                if isinstance(node, ast.Name) and node.id in classes:
                    self.assertIn(node, called, f"line {node.lineno}")
                if isinstance(node, ast.ClassDef):
                    methods = [part.name for part in node.body if isinstance(part, ast.FunctionDef)]
                    self.assertEqual(methods, ["__init__"], node.name)

    def test_no_error_is_raised_or_taken(self):
        for tree in self.each_tree():
            for node in ast.walk(tree):
                self.assertNotIsInstance(node, (ast.Raise, ast.Try))

    def test_what_is_walked_is_walked_on_the_spot(self):
        for tree in self.each_tree():
            walked = walked_on_the_spot(tree)
            for node in ast.walk(tree):
                if is_call_of(node, WALKED_NAMES) or is_call_of_method(node, WALKED_METHODS):
                    self.assertIn(node, walked, f"line {node.lineno}")

    def test_what_a_loop_walks_is_not_changed_in_it(self):
        for tree in self.each_tree():
            for loop in ast.walk(tree):
                if isinstance(loop, ast.For):
                    walked = ast.unparse(loop.iter)
                    for node in ast.walk(loop):
                        if is_call_of_method(node, ("append", "extend", "insert", "pop", "remove", "clear")):
                            self.assertNotEqual(ast.unparse(node.func.value), walked, f"line {node.lineno}")

    def test_sets_are_only_counted(self):
        for tree in self.each_tree():
            counted = [
                part for node in ast.walk(tree) if is_call_of(node, ("len", "sorted")) for part in node.args]
            for node in ast.walk(tree):
                if is_call_of(node, ("set", "frozenset")):
                    self.assertIn(node, counted, f"line {node.lineno}")

    def test_no_power_and_no_percent_sign_in_a_text(self):
        for tree in self.each_tree():
            for node in ast.walk(tree):
                self.assertNotIsInstance(node, ast.Pow)
                if isinstance(node, ast.Constant) and isinstance(node.value, str):
                    self.assertNotIn("%", node.value)

    def test_no_two_files_draw_from_one_another(self):
        drawn = {}
        for path in FILES:
            tree = ast.parse(path.read_text(encoding="utf-8"))
            drawn[path.stem] = {
                node.module.split(".")[1] for node in tree.body if isinstance(node, ast.ImportFrom)}
        self.assertEqual(drawn["__init__"], set())
        while drawn:
            free = [stem for stem, others in drawn.items() if not others & drawn.keys()]
            self.assertNotEqual(free, [], f"these draw from one another: {sorted(drawn)}")
            for stem in free:
                del drawn[stem]

    def test_names_are_drawn_from_the_file_that_defines_them(self):
        for tree in self.each_tree():
            for node in tree.body:
                if isinstance(node, ast.ImportFrom):
                    source = ast.parse((PACKAGE / f"{node.module.split('.')[1]}.py").read_text(encoding="utf-8"))
                    defined = {part.name for part in source.body if isinstance(part, (ast.FunctionDef, ast.ClassDef))}
                    for alias in node.names:
                        self.assertIn(alias.name, defined)

    def test_imports(self):
        for tree in self.each_tree():
            for node in ast.walk(tree):
                if isinstance(node, ast.ImportFrom):
                    self.assertIn(node, tree.body)
                    self.assertEqual(node.level, 0)
                    self.assertRegex(node.module, r"\Acopyrods\.[a-z_]+\Z")
                    for alias in node.names:
                        self.assertNotEqual(alias.name, "*")
                        self.assertIsNone(alias.asname)


if __name__ == "__main__":
    unittest.main()
