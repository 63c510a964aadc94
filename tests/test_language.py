"""The package keeps to the part of Python that it is written in, as far as a test can see it."""

import ast
import builtins
import pathlib
import re
import unittest

PACKAGE = pathlib.Path(__file__).resolve().parent.parent / "lightevents"
FILES = sorted(path for path in PACKAGE.rglob("*") if "__pycache__" not in path.parts)
TEXTS = [path.read_text(encoding="utf-8") for path in FILES]
TREES = [ast.parse(text, path.name) for path, text in zip(FILES, TEXTS)]

STATEMENTS = (ast.Assign, ast.AugAssign, ast.If, ast.While, ast.For, ast.Return, ast.Break, ast.Continue, ast.Pass,
              ast.Raise, ast.Try, ast.Expr, ast.FunctionDef, ast.ClassDef, ast.ImportFrom)
OUT = (ast.Starred, ast.NamedExpr, ast.GeneratorExp, ast.SetComp, ast.DictComp, ast.Div, ast.MatMult,
       ast.Await, ast.Yield, ast.YieldFrom)
OWN_OF_PYTHON = """len range enumerate zip min max sum abs sorted reversed int str bool list tuple dict set frozenset
    isinstance ord repr any all divmod Exception ValueError TypeError KeyError IndexError LookupError
    ZeroDivisionError ArithmeticError OverflowError RuntimeError NotImplementedError AttributeError
    StopIteration""".split()
METHODS = """append clear copy count endswith extend find get index insert isalnum isalpha isdigit islower isspace
    isupper items join keys ljust lower lstrip partition pop remove replace reverse rfind rjust rpartition rsplit
    rstrip setdefault split splitlines startswith strip update upper values zfill bit_length""".split()
WORDS_OUT = """type typing typing_extensions enum Enum IntEnum StrEnum Flag IntFlag Generic Protocol ABC ABCMeta
    namedtuple NamedTuple TypedDict TYPE_CHECKING abstractmethod""".split()
TWO_UNDERSCORES = ("__init__", "__eq__", "__repr__", "__str__", "__len__", "__all__", "__version__")
PARTS_OUT = ("dataclass", "overload", "contextmanager")


def nodes(*kinds):
    return [node for tree in TREES for node in ast.walk(tree) if isinstance(node, kinds)]


def bound_names(tree):
    names = set()
    for node in ast.walk(tree):
        if isinstance(node, (ast.FunctionDef, ast.ClassDef, ast.alias)):
            names.add(node.name)
        elif isinstance(node, ast.arg):
            names.add(node.arg)
        elif isinstance(node, ast.Name) and isinstance(node.ctx, ast.Store):
            names.add(node.id)
    return names


def methods_of_the_package():
    return {part.name for node in nodes(ast.ClassDef) for part in node.body if isinstance(part, ast.FunctionDef)}


class Language(unittest.TestCase):
    def test_files(self):
        self.assertIn(PACKAGE / "__init__.py", FILES)
        for path in FILES:
            self.assertRegex(path.name, r"^[a-z0-9_]+\.py$")

    def test_signs_and_sizes(self):
        for text in TEXTS:
            self.assertRegex(text, r"\A[ -~\n]*\Z")
            rows = text.split("\n")
            self.assertLessEqual(len(rows), 400)
            self.assertLessEqual(max(len(row) for row in rows), 120)
        for node in nodes(ast.FunctionDef):
            self.assertLessEqual(node.end_lineno - node.lineno + 1, 40, node.name)

    def test_words(self):
        for text in TEXTS:
            self.assertEqual([word for word in re.findall(r"\w+", text) if word in WORDS_OUT], [])
            self.assertEqual([part for part in PARTS_OUT if part in text], [])

    def test_imports(self):
        modules = ["lightevents." + path.stem for path in FILES]
        for node in nodes(ast.ImportFrom):
            self.assertEqual(node.level, 0)
            self.assertIn(node.module, modules + ["__future__"])
            self.assertNotIn("*", [alias.name for alias in node.names])

    def test_statements(self):
        for node in nodes(ast.stmt):
            self.assertIsInstance(node, STATEMENTS, node.lineno)
        for node in nodes(ast.Assign):
            self.assertEqual(len(node.targets), 1, node.lineno)
        for node in nodes(ast.For, ast.While):
            self.assertEqual(node.orelse, [], node.lineno)
        for node in nodes(ast.FunctionDef, ast.ClassDef):
            self.assertEqual(node.decorator_list, [], node.lineno)

    def test_expressions(self):
        self.assertEqual([type(node).__name__ for node in nodes(*OUT)], [])
        for node in nodes(ast.Constant):
            self.assertIn(type(node.value), (int, str, bool, type(None)), node.lineno)

    def test_names(self):
        for tree in TREES:
            bound = bound_names(tree)
            self.assertEqual([name for name in sorted(bound) if name in dir(builtins)], [])
            self.assertEqual([name for name in sorted(bound) if name.startswith("_") and name not in TWO_UNDERSCORES],
                             [])
            for node in ast.walk(tree):
                if isinstance(node, ast.Name) and node.id not in bound:
                    self.assertIn(node.id, OWN_OF_PYTHON, node.lineno)

    def test_methods_and_values(self):
        own = methods_of_the_package()
        stored = {node.attr for node in nodes(ast.Attribute) if isinstance(node.ctx, ast.Store)}
        self.assertEqual(sorted(stored & own), [])
        for node in nodes(ast.Call):
            if isinstance(node.func, ast.Attribute):
                self.assertTrue(node.func.attr in own or node.func.attr in METHODS, node.lineno)


if __name__ == "__main__":
    unittest.main()
