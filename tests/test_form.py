"""The package's own files keep to the small part of Python that the program is written in."""

import ast
import builtins
import pathlib
import re
import unittest

PACKAGE = pathlib.Path(__file__).resolve().parent.parent / "taflahead"
FILES = sorted(PACKAGE.glob("*.py"))

ALLOWED_NODES = """
    Module Import ImportFrom alias FunctionDef arguments arg ClassDef Return Assign AugAssign For While If Raise Try
    ExceptHandler Expr Pass Break Continue BoolOp BinOp UnaryOp Lambda IfExp Dict ListComp comprehension Compare Call
    keyword Constant Attribute Subscript Name List Tuple Slice Load Store And Or Add Sub Mult FloorDiv Mod BitAnd BitOr
    BitXor LShift RShift Invert Not USub Eq NotEq Lt LtE Gt GtE Is IsNot In NotIn JoinedStr FormattedValue
""".split()
ALLOWED_BUILTINS = """
    len range enumerate zip min max sum abs sorted reversed int str bool list tuple dict set frozenset isinstance ord
    repr any all divmod True False None Exception ValueError TypeError KeyError IndexError LookupError
    ZeroDivisionError ArithmeticError OverflowError RuntimeError NotImplementedError StopIteration
""".split()
ALLOWED_METHODS = """
    append clear copy count endswith extend find get index insert isalnum isalpha isdigit islower isspace isupper items
    join keys ljust lower lstrip partition pop remove replace reverse rfind rjust rpartition rsplit rstrip setdefault
    split splitlines startswith strip update upper values zfill bit_length __init__
""".split()
BARRED_WORDS = """
    type typing typing_extensions enum Enum IntEnum StrEnum Flag IntFlag Generic Protocol ABC ABCMeta namedtuple
    NamedTuple TypedDict TYPE_CHECKING abstractmethod
""".split()
BARRED_NAMES = """
    register mro elements open input version_info with_traceback add_note attrgetter breakpoint builtins compile
    copyright credits delattr dir eval exec exit gc getattr globals hasattr help id importlib license locals
    methodcaller os quit setattr super vars sys format format_map print chr
""".split()


def tree_of(path):
    return ast.parse(path.read_text())


def methods_of(trees):
    return {one.name for tree in trees for node in tree.body if isinstance(node, ast.ClassDef)
            for one in node.body if isinstance(one, ast.FunctionDef)}


class Form(unittest.TestCase):

    def setUp(self):
        self.trees = {path.name: tree_of(path) for path in FILES}

    def each_node(self):
        for name, tree in self.trees.items():
            for node in ast.walk(tree):
                yield name, node

    def test_files(self):
        there = sorted(path.name for path in PACKAGE.iterdir() if path.name != "__pycache__")
        self.assertEqual(there, [path.name for path in FILES])
        for name in there:
            self.assertRegex(name, r"\A(__init__|[a-z][a-z0-9_]*)\.py\Z")
            self.assertNotIn(name[:-3], dir(builtins))
        self.assertIn("looking.py", there)

    def test_signs_and_sizes(self):
        for path in FILES:
            text = path.read_text()
            self.assertRegex(text, r"\A[ -~\n]*\Z", path.name)
            rows = text.split("\n")
            self.assertLessEqual(len(rows), 399, path.name)
            self.assertLessEqual(max(len(row) for row in rows), 120, path.name)
        for name, node in self.each_node():
            if isinstance(node, ast.FunctionDef):
                self.assertLessEqual(node.end_lineno - node.lineno + 1, 40, (name, node.name))

    def test_barred_words(self):
        for path in FILES:
            words = set(re.findall(r"\w+", path.read_text()))
            self.assertEqual(words & set(BARRED_WORDS), set(), path.name)
            self.assertNotRegex(path.read_text(), "dataclass|overload|contextmanager")

    def test_statements_and_expressions(self):
        for name, node in self.each_node():
            self.assertIn(node.__class__.__name__, ALLOWED_NODES, (name, getattr(node, "lineno", 0)))
            if isinstance(node, ast.Assign):
                self.assertEqual(len(node.targets), 1)
                self.assertNotIsInstance(node.targets[0], (ast.Tuple, ast.List), (name, node.lineno))
            if isinstance(node, (ast.For, ast.While)):
                self.assertEqual(node.orelse, [])
            if isinstance(node, ast.Try):
                self.assertEqual(node.finalbody, [])
            if isinstance(node, ast.ListComp):
                self.assertEqual(len(node.generators), 1)
                self.assertLessEqual(len(node.generators[0].ifs), 1)
            if isinstance(node, ast.Constant):
                self.assertIn(node.value.__class__, (int, str, bool, None.__class__))
                self.assertFalse(isinstance(node.value, str) and "%" in node.value, (name, node.lineno))
            if isinstance(node, ast.Compare) and isinstance(node.ops[0], (ast.Is, ast.IsNot)):
                self.assertIn(node.comparators[0].value, (None, True, False))
            if isinstance(node, ast.FunctionDef):
                self.assertEqual(node.decorator_list, [])
                told = node.args
                self.assertEqual((told.vararg, told.kwarg, told.kwonlyargs, told.posonlyargs), (None, None, [], []))

    def test_imports(self):
        known = {f"taflahead.{path.stem}" for path in FILES}
        drawn = {}
        for name, tree in self.trees.items():
            for node in ast.walk(tree):
                self.assertNotIsInstance(node, ast.Import, name)
                if isinstance(node, ast.ImportFrom):
                    self.assertIn(node, tree.body)
                    self.assertIn(node.module, known)
                    own = {getattr(one, "name", None) for one in self.trees[node.module[10:] + ".py"].body}
                    own |= {one.targets[0].id for one in self.trees[node.module[10:] + ".py"].body
                            if isinstance(one, ast.Assign)}
                    for one in node.names:
                        self.assertIn(one.name, own)
                        self.assertIsNone(one.asname)
                    drawn.setdefault(name, set()).add(node.module[10:] + ".py")
        left = set(self.trees)
        while left:
            free = {name for name in left if not drawn.get(name, set()) & left}
            self.assertNotEqual(free, set(), f"these draw from one another: {left}")
            left -= free

    def test_names(self):
        for name, node in self.each_node():
            names = []
            if isinstance(node, ast.Name):
                names = [node.id]
                if isinstance(node.ctx, ast.Store):
                    self.assertNotIn(node.id, dir(builtins), name)
            if isinstance(node, ast.arg):
                names = [node.arg]
                self.assertNotIn(node.arg, dir(builtins), name)
                self.assertIsNone(node.annotation)
            if isinstance(node, (ast.FunctionDef, ast.ClassDef)) and node.name != "__init__":
                names = [node.name]
            if isinstance(node, ast.Attribute) and node.attr != "__init__":
                names = [node.attr]
            for one in names:
                self.assertRegex(one, r"\A[A-Za-z][A-Za-z0-9_]*\Z", name)
                self.assertNotIn(one, BARRED_NAMES, name)

    def test_locals_are_not_called_like_classes_or_imports(self):
        for name, tree in self.trees.items():
            taken = {one.name for node in tree.body if isinstance(node, ast.ImportFrom) for one in node.names}
            taken |= {node.name for node in tree.body if isinstance(node, ast.ClassDef)}
            for node in ast.walk(tree):
                if isinstance(node, ast.arg):
                    self.assertNotIn(node.arg, taken, name)
                if isinstance(node, ast.Name) and isinstance(node.ctx, ast.Store):
                    self.assertNotIn(node.id, taken, name)

    def test_only_the_listed_names_and_methods_of_python(self):
        own = methods_of(self.trees.values())
        for name, node in self.each_node():
            if isinstance(node, ast.Name) and node.id in dir(builtins):
                self.assertIn(node.id, ALLOWED_BUILTINS, name)
            if isinstance(node, ast.Call) and isinstance(node.func, ast.Attribute):
                self.assertIn(node.func.attr, own | set(ALLOWED_METHODS), name)

    def test_no_name_is_a_method_here_and_a_value_there(self):
        methods = methods_of(self.trees.values())
        for name, node in self.each_node():
            if isinstance(node, ast.Attribute) and isinstance(node.ctx, ast.Store):
                self.assertNotIn(node.attr, methods, name)
                for sort in (str, int, list, dict, set, bytes):
                    self.assertFalse(hasattr(sort, node.attr), (name, node.attr))

    def test_the_top_of_a_module(self):
        for name, tree in self.trees.items():
            bound = []
            for node in tree.body:
                self.assertIsInstance(node, (ast.Expr, ast.ImportFrom, ast.FunctionDef, ast.ClassDef, ast.Assign), name)
                if isinstance(node, ast.Assign):
                    bound.append(node.targets[0].id)
                    ast.literal_eval(node.value)
                if isinstance(node, ast.Expr):
                    self.assertIs(node, tree.body[0])
                    self.assertIsInstance(node.value, ast.Constant)
                if isinstance(node, (ast.FunctionDef, ast.ClassDef)):
                    bound.append(node.name)
            self.assertEqual(len(bound), len(set(bound)), name)

    def test_the_interface_is_written_in_its_file_alone(self):
        with_it = [name for name, tree in self.trees.items() for node in tree.body
                   if isinstance(node, (ast.FunctionDef, ast.ClassDef)) and node.name == "answers"]
        self.assertEqual(with_it, ["looking.py"])


if __name__ == "__main__":
    unittest.main()
