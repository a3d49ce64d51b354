"""The package's files keep to the small part of Python that the program is written in."""

import ast
import builtins
import pathlib
import re
import unittest

PACKAGE = pathlib.Path(__file__).resolve().parent.parent / "rulercircle"

OWN_NAMES = set(
    "len range enumerate zip min max sum abs sorted reversed int str bool list tuple dict set frozenset isinstance ord"
    " repr any all divmod Exception ValueError TypeError KeyError IndexError LookupError ZeroDivisionError"
    " ArithmeticError OverflowError RuntimeError NotImplementedError StopIteration".split()
)
METHODS = set(
    "append clear copy count endswith extend find get index insert isalnum isalpha isdigit islower isspace isupper"
    " items join keys ljust lower lstrip partition pop remove replace reverse rfind rjust rpartition rsplit rstrip"
    " setdefault split splitlines startswith strip update upper values zfill bit_length".split()
)
WORDS = (
    r"\b(type|typing|typing_extensions|enum|Enum|IntEnum|StrEnum|Flag|IntFlag|Generic|Protocol|ABC|ABCMeta|namedtuple"
    r"|NamedTuple|TypedDict|TYPE_CHECKING|abstractmethod)\b|dataclass|overload|contextmanager"
)
STATEMENTS = (
    ast.Assign, ast.AugAssign, ast.If, ast.While, ast.For, ast.Return, ast.Break, ast.Continue, ast.Pass, ast.Raise,
    ast.Try, ast.Expr, ast.FunctionDef, ast.ClassDef, ast.ImportFrom,
)  # fmt: skip
LEFT_OUT = (
    ast.Set, ast.SetComp, ast.DictComp, ast.GeneratorExp, ast.NamedExpr, ast.Starred, ast.Div, ast.MatMult, ast.Await,
    ast.Yield, ast.YieldFrom,
)  # fmt: skip


def files():
    return sorted(PACKAGE.glob("*.py"))


def taken_names(tree):
    """The parameters and locals, in all of a file's defs."""
    names = []
    for node in ast.walk(tree):
        if isinstance(node, ast.FunctionDef):
            names += [argument.arg for argument in node.args.args]
            names += [part.id for part in ast.walk(node) if isinstance(part, ast.Name) and is_stored(part)]
    return names


def is_stored(name):
    return isinstance(name.ctx, ast.Store)


class Language(unittest.TestCase):
    def trees(self):
        for path in files():
            with self.subTest(file=path.name):
                yield path, ast.parse(path.read_text())

    def test_files(self):
        for path in PACKAGE.iterdir():
            if path.name != "__pycache__":
                self.assertRegex(path.name, r"^(__init__|[a-z][a-z0-9_]*)\.py$")
                self.assertNotIn(path.stem, dir(builtins))
        self.assertIn(PACKAGE / "__init__.py", files())

    def test_signs_and_sizes(self):
        for path in files():
            text = path.read_bytes().decode("ascii")
            self.assertTrue(all(sign == "\n" or " " <= sign <= "~" for sign in text), path)
            self.assertLessEqual(len(text.splitlines()), 400)
            self.assertLessEqual(max(map(len, text.splitlines())), 120, path)
            self.assertIsNone(re.search(WORDS, text), path)

    def test_imports(self):
        drawn = {}
        defined = {path.stem: {name for name in top_names(tree)} for path, tree in self.trees()}
        for path, tree in self.trees():
            drawn[path.stem] = []
            for node in ast.walk(tree):
                self.assertNotIsInstance(node, ast.Import)
                if isinstance(node, ast.ImportFrom):
                    self.assertEqual(node.level, 0)
                    package, stem = node.module.split(".")
                    self.assertEqual(package, "rulercircle")
                    self.assertTrue({alias.name for alias in node.names} <= defined[stem])
                    drawn[path.stem].append(stem)
        self.assertEqual(drawn["__init__"], [])
        for stem in drawn:
            reached = list(drawn[stem])
            for other in reached:
                self.assertNotEqual(other, stem)
                reached += [more for more in drawn[other] if more not in reached]

    def test_statements_and_expressions(self):
        for path, tree in self.trees():
            for node in ast.walk(tree):
                self.assertNotIsInstance(node, LEFT_OUT)
                if isinstance(node, ast.stmt):
                    self.assertIsInstance(node, STATEMENTS)
                if isinstance(node, ast.Assign):
                    self.assertEqual(len(node.targets), 1)
                    self.assertIsInstance(node.targets[0], (ast.Name, ast.Attribute, ast.Subscript))
                if isinstance(node, (ast.For, ast.While)):
                    self.assertEqual(node.orelse, [])
                if isinstance(node, ast.Try):
                    self.assertEqual(node.finalbody, [])
                if isinstance(node, ast.Constant):
                    self.assertTrue(node.value is None or type(node.value) in (int, str, bool))
                if isinstance(node, ast.Compare) and any(isinstance(op, (ast.Is, ast.IsNot)) for op in node.ops):
                    self.assertTrue(all(part.value in (None, True, False) for part in node.comparators))
                if isinstance(node, ast.BinOp) and isinstance(node.op, ast.Pow):
                    self.assertIn(node.right.value, range(65))

    def test_functions_and_classes(self):
        for path, tree in self.trees():
            for node in ast.walk(tree):
                if isinstance(node, ast.FunctionDef):
                    self.assertLessEqual(node.end_lineno - node.lineno + 1, 40)
                    self.assertEqual(node.decorator_list, [])
                    self.assertIsNone(node.args.vararg or node.args.kwarg)
                    self.assertEqual(node.args.kwonlyargs + node.args.posonlyargs, [])
                if isinstance(node, ast.ClassDef):
                    self.assertEqual(node.decorator_list + node.keywords, [])
                    self.assertLessEqual(len(node.bases), 1)
                    for part in node.body:
                        if not (isinstance(part, ast.Expr) and isinstance(part.value, ast.Constant)):
                            self.assertIsInstance(part, ast.FunctionDef)
                            if part.name.startswith("__"):
                                self.assertEqual(part.name, "__init__")

    def test_names(self):
        for path, tree in self.trees():
            top = top_names(tree) + imported_names(tree)
            self.assertEqual(len(top), len(set(top)))
            taken = taken_names(tree)
            self.assertEqual([name for name in taken if name in dir(builtins) or name in top], [])
            for node in ast.walk(tree):
                if isinstance(node, ast.Name):
                    self.assertRegex(node.id, r"^[A-Za-z][A-Za-z0-9_]*$")
                    self.assertTrue(node.id in taken + top or node.id in OWN_NAMES, node.id)

    def test_methods_and_values(self):
        methods = []
        kept = []
        for path, tree in self.trees():
            for node in ast.walk(tree):
                if isinstance(node, ast.ClassDef):
                    methods += [part.name for part in node.body if isinstance(part, ast.FunctionDef)]
                if isinstance(node, ast.Attribute) and is_stored(node):
                    kept.append(node.attr)
        self.assertEqual(set(methods) & set(kept), set())
        python = {name for kind in (int, str, list, dict, set, bytes) for name in dir(kind)} - {"__init__"}
        self.assertEqual(python & (set(methods) | set(kept)), set())
        for path, tree in self.trees():
            for node in ast.walk(tree):
                if isinstance(node, ast.Attribute):
                    self.assertIn(node.attr, METHODS | set(methods) | set(kept))

    def test_top(self):
        for path, tree in self.trees():
            self.assertIsNotNone(ast.get_docstring(tree))
            for node in tree.body[1:]:
                self.assertIsInstance(node, (ast.ImportFrom, ast.FunctionDef, ast.ClassDef, ast.Assign))
                if isinstance(node, ast.Assign) and not all(
                    isinstance(part, ast.Name) for part in getattr(node.value, "elts", [0])
                ):
                    ast.literal_eval(node.value)


def top_names(tree):
    names = [node.name for node in tree.body if isinstance(node, (ast.FunctionDef, ast.ClassDef))]
    return names + [node.targets[0].id for node in tree.body if isinstance(node, ast.Assign)]


def imported_names(tree):
    return [alias.name for node in tree.body if isinstance(node, ast.ImportFrom) for alias in node.names]


if __name__ == "__main__":
    unittest.main()
