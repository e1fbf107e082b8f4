"""Tests that the package's files keep to the small part of Python that the project allows.

Not every rule can be seen by a walk through the source; those that can be seen plainly are held here.
"""

import ast
import builtins
import pathlib
import re
import unittest

PACKAGE = pathlib.Path(__file__).resolve().parent.parent / "betwixt"

STATEMENTS = (
    ast.Module, ast.FunctionDef, ast.ClassDef, ast.ImportFrom, ast.Assign, ast.AugAssign, ast.If, ast.While, ast.For,
    ast.Return, ast.Break, ast.Continue, ast.Pass, ast.Raise, ast.Try, ast.ExceptHandler, ast.Expr,
)
EXPRESSIONS = (
    ast.Constant, ast.Name, ast.Attribute, ast.Subscript, ast.Slice, ast.Call, ast.keyword, ast.List, ast.Tuple,
    ast.Dict, ast.BinOp, ast.UnaryOp, ast.BoolOp, ast.Compare, ast.IfExp, ast.ListComp, ast.comprehension, ast.Lambda,
    ast.JoinedStr, ast.FormattedValue, ast.arguments, ast.arg, ast.alias, ast.expr_context, ast.boolop, ast.unaryop,
    ast.cmpop, ast.Add, ast.Sub, ast.Mult, ast.FloorDiv, ast.Mod, ast.Pow, ast.LShift, ast.RShift, ast.BitOr,
    ast.BitXor, ast.BitAnd,
)
OWN_NAMES = set(
    "len range enumerate zip min max sum abs sorted reversed int str bool list tuple dict set frozenset isinstance ord "
    "repr any all divmod Exception ValueError TypeError KeyError IndexError LookupError ZeroDivisionError "
    "ArithmeticError OverflowError RuntimeError NotImplementedError AttributeError StopIteration".split()
)
METHODS = set(
    "append clear copy count endswith extend find get index insert isalnum isalpha isdigit islower isspace isupper "
    "items join keys ljust lower lstrip partition pop remove replace reverse rfind rjust rpartition rsplit rstrip "
    "setdefault split splitlines startswith strip update upper values zfill bit_length".split()
)
UNUSED_NAMES = set(
    "register mro elements open input version_info with_traceback add_note attrgetter breakpoint builtins compile "
    "copyright credits delattr dir eval exec exit gc getattr globals hasattr help id importlib license locals "
    "methodcaller os quit setattr super type vars sys __name__".split()
)
UNUSED_WORDS = re.compile(
    r"\b(type|typing|typing_extensions|enum|Enum|IntEnum|StrEnum|Flag|IntFlag|Generic|Protocol|ABC|ABCMeta|namedtuple"
    r"|NamedTuple|TypedDict|TYPE_CHECKING|abstractmethod)\b|dataclass|overload|contextmanager"
)
DOUBLE_METHODS = ("__init__", "__eq__", "__repr__", "__str__", "__len__")


def sources():
    return {path.name: path.read_text(encoding="utf-8") for path in sorted(PACKAGE.glob("*.py"))}


def trees():
    return {name: ast.parse(source) for name, source in sources().items()}


def every_node():
    return [(name, node) for name, tree in trees().items() for node in ast.walk(tree)]


def bound_names(node):
    """The names that a node binds or says."""
    if isinstance(node, (ast.FunctionDef, ast.ClassDef)):
        return [node.name]
    if isinstance(node, ast.arg):
        return [node.arg]
    if isinstance(node, ast.Name):
        return [node.id]
    if isinstance(node, ast.Attribute):
        return [node.attr]
    return []


class FilesTest(unittest.TestCase):
    def test_plain_file_names_alone(self):
        names = sorted(path.name for path in PACKAGE.iterdir() if path.name != "__pycache__")
        self.assertEqual(names, sorted(sources()))
        self.assertIn("__init__.py", names)
        for name in names:
            self.assertRegex(name, r"^([a-z][a-z0-9_]*|__init__)\.py$")

    def test_signs_and_sizes(self):
        for name, source in sources().items():
            rows = source.split("\n")
            self.assertLessEqual(len(rows), 401, name)
            for row in rows:
                self.assertLessEqual(len(row), 120, (name, row))
                self.assertRegex(row, r"^[ -~]*$", name)

    def test_words_that_stand_nowhere(self):
        for name, source in sources().items():
            self.assertIsNone(UNUSED_WORDS.search(source), name)

    def test_functions_are_short(self):
        for name, node in every_node():
            if isinstance(node, ast.FunctionDef):
                self.assertLessEqual(node.end_lineno - node.lineno + 1, 40, (name, node.name))


class FormTest(unittest.TestCase):
    def test_statements_and_expressions(self):
        for name, node in every_node():
            self.assertIsInstance(node, STATEMENTS + EXPRESSIONS, (name, getattr(node, "lineno", 0)))

    def test_constants(self):
        for name, node in every_node():
            if isinstance(node, ast.Constant):
                self.assertIn(type(node.value), (int, str, bool, type(None)), (name, node.lineno))
                if isinstance(node.value, str):
                    self.assertNotIn("%", node.value, (name, node.lineno))

    def test_powers_have_a_written_exponent(self):
        for name, node in every_node():
            if isinstance(node, ast.BinOp) and isinstance(node.op, ast.Pow):
                self.assertIsInstance(node.right, ast.Constant, (name, node.lineno))
                self.assertLessEqual(node.right.value, 64, (name, node.lineno))

    def test_one_target_and_no_else_behind_a_loop(self):
        for name, node in every_node():
            if isinstance(node, ast.Assign):
                self.assertEqual(len(node.targets), 1, (name, node.lineno))
                self.assertNotIsInstance(node.targets[0], (ast.Tuple, ast.List), (name, node.lineno))
            if isinstance(node, (ast.For, ast.While)):
                self.assertEqual(node.orelse, [], (name, node.lineno))
            if isinstance(node, ast.Try):
                self.assertEqual(node.finalbody, [], (name, node.lineno))

    def test_comprehensions(self):
        for name, node in every_node():
            if isinstance(node, ast.ListComp):
                self.assertEqual(len(node.generators), 1, (name, node.lineno))
                self.assertLessEqual(len(node.generators[0].ifs), 1, (name, node.lineno))

    def test_functions_and_classes_are_plain(self):
        for name, node in every_node():
            if isinstance(node, (ast.FunctionDef, ast.ClassDef)):
                self.assertEqual(node.decorator_list, [], (name, node.name))
            if isinstance(node, ast.FunctionDef):
                given = node.args
                self.assertFalse(given.vararg or given.kwarg or given.kwonlyargs or given.posonlyargs, node.name)
            if isinstance(node, ast.ClassDef):
                self.assertLessEqual(len(node.bases), 1, (name, node.name))

    def test_is_stands_beside_none_true_and_false(self):
        for name, node in every_node():
            if isinstance(node, ast.Compare) and isinstance(node.ops[0], (ast.Is, ast.IsNot)):
                self.assertIsInstance(node.comparators[0], ast.Constant, (name, node.lineno))


class NamesTest(unittest.TestCase):
    def test_imports_are_the_packages_own(self):
        for name, tree in trees().items():
            for node in ast.walk(tree):
                if isinstance(node, ast.ImportFrom):
                    self.assertIn(node, tree.body, name)
                    self.assertEqual(node.level, 0, name)
                    self.assertRegex(node.module, r"^betwixt\.", name)
                    defined = top_names(trees()[node.module.split(".")[1] + ".py"])
                    for drawn in node.names:
                        self.assertIn(drawn.name, defined, name)

    def test_pythons_own_names(self):
        for name, tree in trees().items():
            for node in ast.walk(tree):
                if isinstance(node, ast.Name) and hasattr(builtins, node.id):
                    self.assertIn(node.id, OWN_NAMES, (name, node.lineno))
                    self.assertIsInstance(node.ctx, ast.Load, (name, node.lineno))
                if isinstance(node, ast.arg):
                    self.assertFalse(hasattr(builtins, node.arg), (name, node.lineno))

    def test_plain_names(self):
        for name, node in every_node():
            for said in bound_names(node):
                self.assertNotIn(said, UNUSED_NAMES, (name, node.lineno))
                if said not in DOUBLE_METHODS:
                    self.assertRegex(said, r"^[A-Za-z][A-Za-z0-9_]*$", (name, node.lineno))

    def test_methods(self):
        own = {node.name for name, node in every_node() if isinstance(node, ast.FunctionDef)}
        for name, node in every_node():
            if isinstance(node, ast.Call) and isinstance(node.func, ast.Attribute):
                self.assertIn(node.func.attr, METHODS | own, (name, node.lineno))

    def test_no_name_is_a_method_and_a_value(self):
        classes = [node for name, node in every_node() if isinstance(node, ast.ClassDef)]
        methods = {node.name for each in classes for node in each.body if isinstance(node, ast.FunctionDef)}
        for name, node in every_node():
            if isinstance(node, ast.Attribute) and isinstance(node.ctx, ast.Store):
                self.assertNotIn(node.attr, methods, (name, node.lineno))
                self.assertNotIn(node.attr, METHODS, (name, node.lineno))

    def test_errors_are_the_packages_own(self):
        own = {node.name for name, node in every_node() if isinstance(node, ast.ClassDef)}
        for name, node in every_node():
            if isinstance(node, ast.Raise):
                self.assertIn(node.exc.func.id, own, (name, node.lineno))
            if isinstance(node, ast.ExceptHandler):
                self.assertIn(node.type.id, own, (name, node.lineno))

    def test_each_name_is_bound_once_at_the_top(self):
        for name, tree in trees().items():
            bound = top_names(tree) + drawn_names(tree)
            self.assertEqual(len(bound), len(set(bound)), name)

    def test_no_local_is_called_like_a_class_or_an_import(self):
        for name, tree in trees().items():
            taken = drawn_names(tree) + [node.name for node in tree.body if isinstance(node, ast.ClassDef)]
            for node in ast.walk(tree):
                if isinstance(node, ast.arg):
                    self.assertNotIn(node.arg, taken, (name, node.lineno))
                if isinstance(node, ast.Name) and isinstance(node.ctx, ast.Store):
                    self.assertNotIn(node.id, taken, (name, node.lineno))


def top_names(tree):
    """The names that a file defines at its top."""
    names = []
    for node in tree.body:
        if isinstance(node, (ast.FunctionDef, ast.ClassDef)):
            names.append(node.name)
        if isinstance(node, ast.Assign):
            names.extend(target.id for target in node.targets)
    return names


def drawn_names(tree):
    imports = [node for node in tree.body if isinstance(node, ast.ImportFrom)]
    return [drawn.asname or drawn.name for node in imports for drawn in node.names]


if __name__ == "__main__":
    unittest.main()
