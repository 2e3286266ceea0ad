"""The package's own files keep to the part of Python that the program is written in."""

import ast
import re
import unittest
from pathlib import Path

FOLDER = Path(__file__).resolve().parent.parent / "ringideals"
NODES = """Module Expr Constant FunctionDef ClassDef arguments arg Return Assign AugAssign If While For Break Continue Pass
ImportFrom alias Name Attribute Subscript Slice Call keyword Tuple List Dict ListComp comprehension BinOp UnaryOp BoolOp
Compare IfExp Load Store Add Sub Mult FloorDiv Mod Pow BitAnd BitOr BitXor LShift RShift USub Not And Or
Eq NotEq Lt LtE Gt GtE Is IsNot In NotIn""".split()
BUILTIN = """len range enumerate zip min max sum abs sorted reversed int str bool list tuple dict isinstance any all
divmod""".split()
METHODS = """append clear copy count endswith extend find get index insert items join keys pop remove replace reverse
setdefault split update values bit_length""".split()
WALKED = ("zip", "enumerate", "reversed", "range")
WALKERS = ("list", "tuple", "dict", "sorted", "sum", "any", "all", "enumerate", "zip", "min", "max")
WORDS = """type typing typing_extensions enum Enum IntEnum StrEnum Flag IntFlag Generic Protocol ABC ABCMeta namedtuple
NamedTuple TypedDict TYPE_CHECKING abstractmethod""".split()
NO_NAMES = """register mro elements open input version_info with_traceback add_note attrgetter breakpoint builtins compile
copyright credits delattr dir eval exec exit gc getattr globals hasattr help id importlib license locals methodcaller os
quit setattr super type vars sys chr print hash next map filter set frozenset""".split()


def files():
    return sorted(FOLDER.rglob("*.py"))


def trees():
    return [(path.name, ast.parse(path.read_text())) for path in files()]


def bound_in(node):
    """All names that are bound somewhere in the tree."""
    found = []
    for inner in ast.walk(node):
        if isinstance(inner, ast.Name) and isinstance(inner.ctx, ast.Store):
            found.append(inner.id)
        elif isinstance(inner, ast.arg):
            found.append(inner.arg)
        elif isinstance(inner, (ast.FunctionDef, ast.ClassDef)):
            found.append(inner.name)
    return found


def is_plain(value):
    """Whether what is given to a name of the file's top is a plain value."""
    if isinstance(value, (ast.Tuple, ast.List)):
        return all(is_plain(inner) for inner in value.elts)
    if isinstance(value, ast.Dict):
        return all(is_plain(inner) for inner in value.keys + value.values)
    return isinstance(value, ast.Constant)


class Form(unittest.TestCase):
    def test_files(self):
        self.assertIn("__init__.py", [path.name for path in files()])
        for path in FOLDER.iterdir():
            if path.name != "__pycache__":
                self.assertRegex(path.name, r"^[a-z0-9_]+\.py$")
                self.assertNotRegex(path.name, r"^(test|conftest|site)")

    def test_sizes_and_signs(self):
        for path in files():
            text = path.read_text()
            self.assertRegex(text, r"\A[ -~\n]*\Z", path.name)
            lines = text.splitlines()
            self.assertLessEqual(len(lines), 399)
            self.assertLessEqual(max(map(len, lines)), 120)
            for node in ast.walk(ast.parse(text)):
                if isinstance(node, ast.FunctionDef):
                    self.assertLessEqual(node.end_lineno - node.lineno + 1, 40, node.name)

    def test_words(self):
        for path in files():
            found = set(re.findall(r"\w+", path.read_text()))
            self.assertEqual(found & set(WORDS), set())
            self.assertFalse([word for word in found if re.search("dataclass|overload|contextmanager", word)])

    def test_statements_and_expressions(self):
        for name, tree in trees():
            for node in ast.walk(tree):
                where = (name, getattr(node, "lineno", 0), type(node).__name__)
                self.assertIn(type(node).__name__, NODES, where)
                if isinstance(node, ast.Constant):
                    self.assertIn(type(node.value), (int, str, bool, type(None)), where)
                if isinstance(node, (ast.For, ast.While)):
                    self.assertEqual(node.orelse, [], where)
                if isinstance(node, ast.Assign):
                    self.assertEqual(len(node.targets), 1, where)
                if isinstance(node, ast.ListComp):
                    self.assertEqual(len(node.generators), 1, where)
                    self.assertLessEqual(len(node.generators[0].ifs), 1, where)
                if isinstance(node, ast.BinOp) and isinstance(node.op, ast.Pow):
                    self.assertIsInstance(node.right, ast.Constant, where)

    def test_defs_are_plain(self):
        for name, tree in trees():
            for node in ast.walk(tree):
                if isinstance(node, ast.FunctionDef):
                    given = node.args
                    self.assertFalse(given.vararg or given.kwarg or given.kwonlyargs or given.posonlyargs, node.name)
                    self.assertFalse(node.decorator_list or node.returns, node.name)

    def test_the_top_of_a_module(self):
        for name, tree in trees():
            self.assertIsNotNone(ast.get_docstring(tree), name)
            bound = []
            for node in tree.body[1:]:
                self.assertIsInstance(node, (ast.ImportFrom, ast.FunctionDef, ast.ClassDef, ast.Assign), name)
                if isinstance(node, ast.ImportFrom):
                    self.assertRegex(node.module, r"^ringideals\.[a-z]+$")
                    self.assertEqual([alias.asname for alias in node.names], [None] * len(node.names))
                    bound.extend(alias.name for alias in node.names)
                elif isinstance(node, ast.Assign):
                    self.assertTrue(is_plain(node.value), (name, node.lineno))
                    bound.extend(bound_in(node))
                else:
                    bound.append(node.name)
            self.assertEqual(len(bound), len(set(bound)), name)

    def test_names(self):
        for name, tree in trees():
            own = [node.name for node in tree.body if isinstance(node, ast.ClassDef)]
            for node in tree.body:
                if isinstance(node, ast.ImportFrom):
                    own.extend(alias.name for alias in node.names)
            bound = [word for word in bound_in(tree) if word != "__init__"]
            for word in bound:
                self.assertRegex(word, r"^[A-Za-z][A-Za-z0-9_]*$", name)
                self.assertNotIn(word, NO_NAMES + BUILTIN, name)
            for node in ast.walk(tree):
                if isinstance(node, ast.FunctionDef):
                    inside = [word for part in [node.args] + node.body for word in bound_in(part)]
                    self.assertFalse(set(inside) & set(own), (name, node.name))
                if isinstance(node, ast.Name) and isinstance(node.ctx, ast.Load):
                    self.assertIn(node.id, bound + own + BUILTIN, (name, node.lineno))

    def test_methods(self):
        for name, tree in trees():
            for node in ast.walk(tree):
                if isinstance(node, ast.Call) and isinstance(node.func, ast.Attribute):
                    self.assertIn(node.func.attr, METHODS, (name, node.lineno))

    def test_walked_on_the_spot(self):
        for name, tree in trees():
            walked = []
            for node in ast.walk(tree):
                if isinstance(node, (ast.For, ast.comprehension)):
                    walked.append(node.iter)
                if isinstance(node, ast.Call) and isinstance(node.func, ast.Name) and node.func.id in WALKERS:
                    walked.append(node.args[0])
            for node in ast.walk(tree):
                if isinstance(node, ast.Call) and isinstance(node.func, ast.Name) and node.func.id in WALKED:
                    self.assertIn(node, walked, (name, node.lineno))

    def test_the_interface_stands_in_its_file_alone(self):
        found = [(name, node.args) for name, tree in trees() for node in tree.body
                 if isinstance(node, ast.FunctionDef) and node.name == "answers"]
        self.assertEqual([name for name, _ in found], ["rings.py"])
        self.assertEqual([given.arg for given in found[0][1].args], ["calls"])
        self.assertEqual(found[0][1].defaults, [])


if __name__ == "__main__":
    unittest.main()
