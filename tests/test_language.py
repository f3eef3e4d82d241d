"""The program's form: those rules of ../shared/LANGUAGE.md that a plain look at the files can check."""

import ast
import builtins
import pathlib
import re
import unittest

PACKAGE = pathlib.Path(__file__).resolve().parent.parent / "wiredies"

STATEMENTS = (
    ast.Assign, ast.AugAssign, ast.AnnAssign, ast.If, ast.While, ast.For, ast.Return, ast.Break, ast.Continue,
    ast.Pass, ast.Raise, ast.Try, ast.Expr, ast.FunctionDef, ast.ClassDef, ast.ImportFrom)
EXPRESSIONS = (
    ast.BoolOp, ast.BinOp, ast.UnaryOp, ast.Lambda, ast.IfExp, ast.Dict, ast.Set, ast.ListComp, ast.Compare, ast.Call,
    ast.JoinedStr, ast.FormattedValue, ast.Constant, ast.Attribute, ast.Subscript, ast.Name, ast.List, ast.Tuple,
    ast.Slice)
OWN_NAMES_OF_PYTHON = (
    "len range enumerate zip min max sum abs sorted reversed int str bool list tuple dict set frozenset isinstance "
    "ord repr any all divmod Exception ValueError TypeError KeyError IndexError LookupError ZeroDivisionError "
    "ArithmeticError OverflowError RuntimeError NotImplementedError AttributeError StopIteration").split()
METHODS_OF_PYTHON = (
    "append clear copy count endswith extend find get index insert isalnum isalpha isdigit islower isspace isupper "
    "items join keys ljust lower lstrip partition pop remove replace reverse rfind rjust rpartition rsplit rstrip "
    "setdefault split splitlines startswith strip update upper values zfill bit_length").split()
METHODS_WITH_UNDERSCORES = ("__init__", "__eq__", "__repr__", "__str__", "__len__")
WORDS_NOT_USED = re.compile(
    r"\b(type|typing|typing_extensions|enum|Enum|IntEnum|StrEnum|Flag|IntFlag|Generic|Protocol|ABC|ABCMeta|namedtuple"
    r"|NamedTuple|TypedDict|TYPE_CHECKING|abstractmethod)\b|dataclass|overload|contextmanager")
NAMES_NOT_USED = ("register", "mro", "elements", "open", "input", "version_info", "with_traceback", "add_note",
                  "format", "format_map", "sort", "args", "encode")


def nodes(tree, kind):
    return [node for node in ast.walk(tree) if isinstance(node, kind)]


def bound_names(tree):
    """Every parameter and every name that is given a value."""
    names = [node.arg for node in nodes(tree, ast.arg)]
    return names + [node.id for node in nodes(tree, ast.Name) if isinstance(node.ctx, ast.Store)]


class Form(unittest.TestCase):

    @classmethod
    def setUpClass(cls):
        cls.files = sorted(PACKAGE.glob("*.py"))
        cls.texts = {path.name: path.read_text(encoding="utf-8") for path in cls.files}
        cls.trees = {name: ast.parse(text) for name, text in cls.texts.items()}
        defs = [node for tree in cls.trees.values() for node in nodes(tree, ast.FunctionDef)]
        cls.own_defs = {node.name for node in defs}

    def test_files(self):
        found = [path for path in PACKAGE.iterdir() if path.name != "__pycache__"]
        self.assertEqual(sorted(found), self.files)
        self.assertIn("__init__.py", self.texts)
        self.assertIn("drawing.py", self.texts)
        for path in self.files:
            if path.name != "__init__.py":
                self.assertRegex(path.name, r"^[a-z][a-z0-9_]*\.py$")
                self.assertFalse(hasattr(builtins, path.stem))

    def test_signs_and_sizes(self):
        for name, text in self.texts.items():
            with self.subTest(file=name):
                self.assertRegex(text, r"\A[ -~\n]*\Z")
                self.assertLessEqual(len(text.splitlines()), 400)
                self.assertLessEqual(max(len(line) for line in text.splitlines()), 120)
                self.assertIsNone(WORDS_NOT_USED.search(text))

    def test_sizes_of_functions(self):
        for tree in self.trees.values():
            for node in nodes(tree, ast.FunctionDef):
                self.assertLessEqual(node.end_lineno - node.lineno + 1, 40, node.name)

    def test_imports(self):
        for tree in self.trees.values():
            for node in nodes(tree, ast.ImportFrom):
                self.assertEqual(node.level, 0)
                self.assertRegex(node.module, r"^wiredies\.[a-z0-9_]+$")
                self.assertIn(node, tree.body)
                home = self.trees[node.module.split(".")[1] + ".py"]
                defined = [part.name for part in home.body if isinstance(part, (ast.FunctionDef, ast.ClassDef))]
                defined += [part.targets[0].id for part in home.body if isinstance(part, ast.Assign)]
                for alias in node.names:
                    self.assertIn(alias.name, defined)

    def test_the_top_of_a_file(self):
        for tree in self.trees.values():
            self.assertIsNotNone(ast.get_docstring(tree))
            for node in tree.body[1:]:
                self.assertIsInstance(node, (ast.ImportFrom, ast.FunctionDef, ast.ClassDef, ast.Assign))
                if isinstance(node, ast.Assign):
                    self.assertEqual(nodes(node.value, (ast.Call, ast.BinOp, ast.Lambda, ast.ListComp)), [])
            names = [node.targets[0].id for node in tree.body if isinstance(node, ast.Assign)]
            names += [node.name for node in tree.body if isinstance(node, (ast.FunctionDef, ast.ClassDef))]
            self.assertEqual(len(names), len(set(names)))

    def test_statements_and_expressions(self):
        for tree in self.trees.values():
            for node in nodes(tree, ast.stmt):
                self.assertIsInstance(node, STATEMENTS)
                self.assertFalse(isinstance(node, ast.Try) and node.finalbody)
                self.assertFalse(isinstance(node, (ast.For, ast.While)) and node.orelse)
                self.assertFalse(isinstance(node, ast.Assign) and len(node.targets) != 1)
            for node in nodes(tree, ast.expr):
                self.assertIsInstance(node, EXPRESSIONS)
            for node in nodes(tree, ast.Constant):
                self.assertIn(type(node.value), (int, str, bool, type(None)))
            self.assertEqual(nodes(tree, (ast.Div, ast.MatMult)), [])
            for node in nodes(tree, ast.Compare):
                for sign, right in zip(node.ops, node.comparators):
                    if isinstance(sign, (ast.Is, ast.IsNot)):
                        self.assertIn(ast.dump(right), [ast.dump(ast.Constant(v)) for v in (None, True, False)])

    def test_functions_and_classes(self):
        for tree in self.trees.values():
            for node in nodes(tree, ast.FunctionDef):
                self.assertEqual(node.decorator_list, [])
                given = node.args
                self.assertEqual((given.vararg, given.kwarg, given.kwonlyargs, given.posonlyargs), (None, None, [], []))
            for node in nodes(tree, ast.ClassDef):
                self.assertIn(node, tree.body)
                self.assertEqual((node.decorator_list, node.keywords), ([], []))
                self.assertLessEqual(len(node.bases), 1)
                for part in node.body:
                    self.assertTrue(isinstance(part, ast.FunctionDef) or part is node.body[0])

    def test_names(self):
        for tree in self.trees.values():
            taken = [alias.name for node in nodes(tree, ast.ImportFrom) for alias in node.names]
            taken += [node.name for node in nodes(tree, ast.ClassDef)]
            for name in bound_names(tree):
                self.assertRegex(name, r"^[A-Za-z][A-Za-z0-9_]*$")
                self.assertFalse(hasattr(builtins, name), name)
                self.assertNotIn(name, taken)
            for name in self.own_defs:
                self.assertTrue(name in METHODS_WITH_UNDERSCORES or name[0] != "_", name)
            known = set(bound_names(tree)) | set(taken) | self.own_defs | set(OWN_NAMES_OF_PYTHON)
            for node in nodes(tree, ast.Name):
                self.assertIn(node.id, known)
            for node in nodes(tree, ast.Attribute):
                self.assertNotIn(node.attr, NAMES_NOT_USED)

    def test_methods(self):
        methods = set()
        values = set()
        for tree in self.trees.values():
            for node in nodes(tree, ast.ClassDef):
                methods.update(part.name for part in node.body if isinstance(part, ast.FunctionDef))
            values.update(node.attr for node in nodes(tree, ast.Attribute) if isinstance(node.ctx, ast.Store))
            for node in nodes(tree, ast.Call):
                if isinstance(node.func, ast.Attribute):
                    self.assertIn(node.func.attr, set(METHODS_OF_PYTHON) | self.own_defs)
        self.assertEqual(methods & values, set())
        for name in values:
            for sort in (str, int, list, dict, set, bytes):
                self.assertFalse(hasattr(sort, name), name)


if __name__ == "__main__":
    unittest.main()
