"""The package keeps to the part of Python that it is written in, as far as a test can see it."""

import ast
import builtins
import pathlib
import re
import unittest

PACKAGE = pathlib.Path(__file__).resolve().parent.parent / "lightevents"
FILES = sorted(path for path in PACKAGE.rglob("*") if "__pycache__" not in path.parts)
TEXTS = [path.read_text(encoding="utf-8") for path in FILES]
TREES = [ast.parse(text, path.name) for path, text in zip(FILES, TEXTS)]

STATEMENTS = (ast.Assign, ast.AugAssign, ast.If, ast.While, ast.For, ast.Return, ast.Break, ast.Continue, ast.Pass,
              ast.Raise, ast.Try, ast.Expr, ast.FunctionDef, ast.ClassDef, ast.ImportFrom)
OUT = (ast.Starred, ast.NamedExpr, ast.GeneratorExp, ast.SetComp, ast.DictComp, ast.Div, ast.MatMult,
       ast.Await, ast.Yield, ast.YieldFrom)
OWN_OF_PYTHON = """len range enumerate zip min max sum abs sorted reversed int str bool list tuple dict set frozenset
    isinstance ord repr any all divmod Exception ValueError TypeError KeyError IndexError LookupError
    ZeroDivisionError ArithmeticError OverflowError RuntimeError NotImplementedError AttributeError
    StopIteration""".split()
METHODS = """append clear copy count endswith extend find get index insert isalnum isalpha isdigit islower isspace
    isupper items join keys ljust lower lstrip partition pop remove replace reverse rfind rjust rpartition rsplit
    rstrip setdefault split splitlines startswith strip update upper values zfill bit_length""".split()
WORDS_OUT = """type typing typing_extensions enum Enum IntEnum StrEnum Flag IntFlag Generic Protocol ABC ABCMeta
    namedtuple NamedTuple TypedDict TYPE_CHECKING abstractmethod""".split()
TWO_UNDERSCORES = ("__init__", "__eq__", "__repr__", "__str__", "__len__", "__all__", "__version__")
PARTS_OUT = ("dataclass", "overload", "contextmanager")
KEYWORDS = {"sorted": ("key", "reverse"), "min": ("key", "default"), "max": ("key", "default"), "sum": ("start",),
            "enumerate": ("start",), "zip": ("strict",)}
# What is walked on the spot, and the names within whose call it may stand as the first thing.
WALKED = ("zip", "enumerate", "reversed", "range", "items", "keys", "values")
WALKS = ("list", "tuple", "dict", "sorted", "sum", "any", "all", "enumerate", "zip", "min", "max")
# Names that Python's own values have: no method and no value of an object is called like these.
OF_OWN_VALUES = {name for value in ("", 0, [], {}, set(), b"") for name in dir(value)}


def nodes(*kinds):
    return [node for tree in TREES for node in ast.walk(tree) if isinstance(node, kinds)]


def bound_names(tree):
    names = set()
    for node in ast.walk(tree):
        if isinstance(node, (ast.FunctionDef, ast.ClassDef, ast.alias)):
            names.add(node.name)
        elif isinstance(node, ast.arg):
            names.add(node.arg)
        elif isinstance(node, ast.Name) and isinstance(node.ctx, ast.Store):
            names.add(node.id)
    return names


def called(node):
    return node.func.id if isinstance(node.func, ast.Name) else getattr(node.func, "attr", None)


def names_given(node):
    if isinstance(node, ast.Assign):
        return [target.id for target in node.targets]
    if isinstance(node, ast.ImportFrom):
        return [alias.name for alias in node.names]
    return [node.name] if isinstance(node, (ast.FunctionDef, ast.ClassDef)) else []


def methods_of_the_package():
    return {part.name for node in nodes(ast.ClassDef) for part in node.body if isinstance(part, ast.FunctionDef)}


class Language(unittest.TestCase):
    def test_files(self):
        self.assertIn(PACKAGE / "__init__.py", FILES)
        for path in FILES:
            self.assertRegex(path.name, r"^[a-z0-9_]+\.py$")

    def test_signs_and_sizes(self):
        for text in TEXTS:
            self.assertRegex(text, r"\A[ -~\n]*\Z")
            rows = text.split("\n")
            self.assertLessEqual(len(rows), 400)
            self.assertLessEqual(max(len(row) for row in rows), 120)
        for node in nodes(ast.FunctionDef):
            self.assertLessEqual(node.end_lineno - node.lineno + 1, 40, node.name)

    def test_words(self):
        for text in TEXTS:
            self.assertEqual([word for word in re.findall(r"\w+", text) if word in WORDS_OUT], [])
            self.assertEqual([part for part in PARTS_OUT if part in text], [])

    def test_imports(self):
        modules = ["lightevents." + path.stem for path in FILES]
        for node in nodes(ast.ImportFrom):
            self.assertEqual(node.level, 0)
            self.assertIn(node.module, modules + ["__future__"])
            self.assertNotIn("*", [alias.name for alias in node.names])

    def test_statements(self):
        for node in nodes(ast.stmt):
            self.assertIsInstance(node, STATEMENTS, node.lineno)
        for node in nodes(ast.Assign):
            self.assertEqual(len(node.targets), 1, node.lineno)
        for node in nodes(ast.For, ast.While):
            self.assertEqual(node.orelse, [], node.lineno)
        for node in nodes(ast.FunctionDef, ast.ClassDef):
            self.assertEqual(node.decorator_list, [], node.lineno)

    def test_expressions(self):
        self.assertEqual([type(node).__name__ for node in nodes(*OUT)], [])
        for node in nodes(ast.Constant):
            self.assertIn(type(node.value), (int, str, bool, type(None)), node.lineno)

    def test_names(self):
        for tree in TREES:
            bound = bound_names(tree)
            self.assertEqual([name for name in sorted(bound) if name in dir(builtins)], [])
            self.assertEqual([name for name in sorted(bound) if name.startswith("_") and name not in TWO_UNDERSCORES],
                             [])
            for node in ast.walk(tree):
                if isinstance(node, ast.Name) and node.id not in bound:
                    self.assertIn(node.id, OWN_OF_PYTHON, node.lineno)

    def test_parameters(self):
        for node in nodes(ast.FunctionDef, ast.Lambda):
            given = node.args
            self.assertEqual((given.vararg, given.kwarg, given.kwonlyargs, given.posonlyargs), (None, None, [], []))

    def test_comprehensions(self):
        for node in nodes(ast.ListComp):
            self.assertEqual(len(node.generators), 1, node.lineno)
            self.assertLessEqual(len(node.generators[0].ifs), 1, node.lineno)

    def test_is_beside_none_true_and_false_alone(self):
        for node in nodes(ast.Compare):
            for sign, right in zip(node.ops, node.comparators):
                if isinstance(sign, (ast.Is, ast.IsNot)):
                    self.assertIn(getattr(right, "value", "no plain value"), (None, True, False), node.lineno)

    def test_keywords(self):
        for node in nodes(ast.Call):
            used = [keyword.arg for keyword in node.keywords]
            allowed = KEYWORDS.get(getattr(node.func, "id", None), ())
            self.assertEqual([word for word in used if word not in allowed], [], node.lineno)

    def test_walked_on_the_spot(self):
        on_the_spot = [node.iter for node in nodes(ast.For, ast.comprehension)]
        for node in nodes(ast.Call):
            if called(node) in WALKS:
                on_the_spot += node.args[:1]
        for node in nodes(ast.Call):
            if called(node) in WALKED:
                self.assertIn(node, on_the_spot, node.lineno)

    def test_the_top_of_a_file(self):
        for tree in TREES:
            names = [name for node in tree.body for name in names_given(node)]
            self.assertEqual(len(names), len(set(names)))
            for node in tree.body:
                self.assertIsInstance(node, (ast.FunctionDef, ast.ClassDef, ast.ImportFrom, ast.Assign, ast.Expr))
                if isinstance(node, ast.Expr):
                    self.assertIs(node, tree.body[0])
                if isinstance(node, ast.Assign):
                    ast.literal_eval(node.value)

    def test_no_two_files_draw_from_one_another(self):
        drawn = {}
        for path, tree in zip(FILES, TREES):
            drawn["lightevents." + path.stem] = [node.module for node in tree.body if isinstance(node, ast.ImportFrom)]
        left = dict(drawn)
        while left:
            free = [name for name in left if not [other for other in left[name] if other in left]]
            self.assertNotEqual(free, [], left)
            left = {name: left[name] for name in left if name not in free}

    def test_own_methods_and_values_are_called_otherwise_than_pythons(self):
        stored = {node.attr for node in nodes(ast.Attribute) if isinstance(node.ctx, ast.Store)}
        own = methods_of_the_package() - {"__init__"}
        self.assertEqual(sorted((stored | own) & OF_OWN_VALUES), [])

    def test_methods_and_values(self):
        own = methods_of_the_package()
        stored = {node.attr for node in nodes(ast.Attribute) if isinstance(node.ctx, ast.Store)}
        self.assertEqual(sorted(stored & own), [])
        for node in nodes(ast.Call):
            if isinstance(node.func, ast.Attribute):
                self.assertTrue(node.func.attr in own or node.func.attr in METHODS, node.lineno)


if __name__ == "__main__":
    unittest.main()
