"""What can be seen from outside of how the package is written: see the rules L1 to L28."""

import ast
import os
import re
import unittest

PACKAGE = os.path.join(os.path.dirname(os.path.dirname(os.path.abspath(__file__))), "twonets")
NODES = """Module Expr Constant ImportFrom alias FunctionDef ClassDef arguments arg Return Assign AugAssign For While If
Break Continue Pass Raise Try ExceptHandler Call Name Load Store Attribute Subscript Slice List Tuple Dict BinOp UnaryOp
BoolOp Compare IfExp ListComp comprehension Lambda keyword Add Sub Mult FloorDiv Mod Pow LShift RShift BitOr BitAnd
BitXor Invert USub Not And Or Eq NotEq Lt LtE Gt GtE In NotIn Is IsNot""".split()
OWN_NAMES = """len range enumerate zip min max sum abs sorted reversed int str bool list tuple dict set isinstance ord
repr any all divmod ValueError KeyError IndexError ZeroDivisionError""".split()
OWN_METHODS = """append clear copy count endswith extend find get index insert isalnum isalpha isdigit islower isspace
isupper items join keys ljust lower lstrip partition pop remove replace reverse rfind rjust rpartition rsplit rstrip
setdefault split splitlines startswith strip update upper values zfill bit_length""".split()
WORDS_OUT = """type typing typing_extensions enum Enum IntEnum StrEnum Flag IntFlag Generic Protocol ABC ABCMeta
namedtuple NamedTuple TypedDict TYPE_CHECKING abstractmethod register mro elements open input version_info""".split()
VALUE_NAMES = set(dir(str) + dir(int) + dir(list) + dir(dict) + dir(set) + dir(bytes))
BUILTINS = set(dir(__builtins__) if not isinstance(__builtins__, dict) else __builtins__)


def read_files():
    files = {}
    for name in sorted(os.listdir(PACKAGE)):
        if name != "__pycache__":
            with open(os.path.join(PACKAGE, name), "rb") as stream:
                files[name] = stream.read().decode("ascii")
    return files


FILES = read_files()
TREES = {name: ast.parse(source) for name, source in FILES.items()}


def nodes(*kinds):
    return [(name, node) for name, tree in TREES.items() for node in ast.walk(tree) if isinstance(node, kinds)]


class Language(unittest.TestCase):
    def test_files(self):
        self.assertIn("__init__.py", FILES)
        for name, source in FILES.items():
            self.assertRegex(name, r"^(__init__|[a-z][a-z0-9_]*)\.py$")
            self.assertLessEqual(len(source.splitlines()), 400, name)
            for line in source.split("\n"):
                self.assertLessEqual(len(line), 120, (name, line))
                self.assertRegex(line, r"^[ -~]*$", name)
            for word in WORDS_OUT:
                self.assertIsNone(re.search(r"\b" + word + r"\b", source), (name, word))
            self.assertIsNone(re.search("dataclass|overload|contextmanager", source), name)

    def test_what_is_written(self):
        for name, node in nodes(ast.AST):
            self.assertIn(type(node).__name__, NODES, (name, getattr(node, "lineno", 0)))
        for name, node in nodes(ast.FunctionDef):
            self.assertLessEqual(node.end_lineno - node.lineno + 1, 40, (name, node.name))
            self.assertFalse(node.decorator_list or node.args.vararg or node.args.kwarg or node.args.kwonlyargs)
        for name, node in nodes(ast.Assign):
            self.assertEqual(len(node.targets), 1, (name, node.lineno))
            self.assertNotIsInstance(node.targets[0], (ast.Tuple, ast.List), (name, node.lineno))
        for name, node in nodes(ast.For, ast.While):
            self.assertFalse(node.orelse, (name, node.lineno))
        for name, node in nodes(ast.Constant):
            self.assertIn(type(node.value), (int, str, bool, type(None)), (name, node.lineno))
            self.assertNotIn("%", str(node.value), (name, node.lineno))
        for name, node in nodes(ast.ListComp):
            self.assertEqual(len(node.generators), 1)
        for name, node in nodes(ast.Compare):
            if isinstance(node.ops[0], (ast.Is, ast.IsNot)):
                self.assertIn(node.comparators[0].value, (None, True, False), (name, node.lineno))

    def test_names(self):
        bound = {name: set() for name in FILES}
        for name, node in nodes(ast.FunctionDef, ast.ClassDef):
            bound[name].add(node.name)
        for name, node in nodes(ast.arg):
            bound[name].add(node.arg)
        for name, node in nodes(ast.alias):
            bound[name].add(node.name)
        for name, node in nodes(ast.Name):
            if isinstance(node.ctx, ast.Store):
                bound[name].add(node.id)
        for name, names in bound.items():
            for one in names - {"__init__"}:
                self.assertRegex(one, "^[A-Za-z]", name)
                self.assertNotIn(one, BUILTINS, name)
        for name, node in nodes(ast.Name):
            if isinstance(node.ctx, ast.Load) and node.id not in bound[name]:
                self.assertIn(node.id, OWN_NAMES, (name, node.lineno))

    def test_no_local_is_called_like_an_import_or_a_class(self):
        for name, tree in TREES.items():
            taken = {node.name for node in ast.walk(tree) if isinstance(node, (ast.alias, ast.ClassDef))}
            for node in ast.walk(tree):
                if isinstance(node, ast.arg):
                    self.assertNotIn(node.arg, taken, name)
                if isinstance(node, ast.Name) and isinstance(node.ctx, ast.Store):
                    self.assertNotIn(node.id, taken, (name, node.lineno))

    def test_methods_and_values(self):
        methods, values = set(), set()
        for name, node in nodes(ast.ClassDef):
            methods |= {one.name for one in node.body if isinstance(one, ast.FunctionDef)}
        for name, node in nodes(ast.Attribute):
            if isinstance(node.ctx, ast.Store):
                values.add(node.attr)
        self.assertEqual(methods & values, set())
        self.assertEqual((methods - {"__init__"}) & VALUE_NAMES, set())
        self.assertEqual(values & VALUE_NAMES, set())
        for name, node in nodes(ast.Attribute):
            self.assertIn(node.attr, methods | values | set(OWN_METHODS), (name, node.lineno))

    def test_imports(self):
        drawn = {name: set() for name in FILES}
        for name, node in nodes(ast.ImportFrom):
            self.assertEqual(node.level, 0)
            self.assertRegex(node.module, r"^twonets\.[a-z]+$")
            source = node.module.split(".")[1] + ".py"
            drawn[name].add(source)
            tops = {one.name for one in TREES[source].body if isinstance(one, (ast.FunctionDef, ast.ClassDef))}
            tops |= {one.targets[0].id for one in TREES[source].body if isinstance(one, ast.Assign)}
            used = {one.id for one in ast.walk(TREES[name]) if isinstance(one, ast.Name)}
            for one in node.names:
                self.assertIn(one.name, tops, name)
                self.assertIn(one.name, used, name)
                self.assertIsNone(one.asname)
        while drawn:
            free = [name for name in drawn if not drawn[name] & set(drawn)]
            self.assertTrue(free, drawn)
            drawn = {name: drawn[name] for name in drawn if name not in free}

    def test_the_top_of_a_file(self):
        for name, tree in TREES.items():
            tops = [one.targets[0].id for one in tree.body if isinstance(one, ast.Assign)]
            self.assertEqual(len(tops), len(set(tops)), name)
            for node in tree.body:
                if isinstance(node, ast.Assign):
                    self.assertIsInstance(ast.literal_eval(node.value), (int, str, tuple), name)
                elif isinstance(node, ast.Expr):
                    self.assertIs(node, tree.body[0], name)
                else:
                    self.assertIsInstance(node, (ast.ImportFrom, ast.FunctionDef, ast.ClassDef), name)


if __name__ == "__main__":
    unittest.main()
