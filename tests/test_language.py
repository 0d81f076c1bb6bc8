"""The package keeps to the part of Python that its language rules allow; the rule stands in each message."""

import ast
import builtins
import pathlib
import re
import unittest

ROOT = pathlib.Path(__file__).resolve().parent.parent
FOLDER = ROOT / "staysup"
FILES = sorted(path for path in FOLDER.rglob("*") if path.is_file() and "__pycache__" not in path.parts)

STATEMENTS = (
    ast.Assign, ast.AugAssign, ast.If, ast.While, ast.For, ast.Return, ast.Break, ast.Continue, ast.Pass,
    ast.Raise, ast.Try, ast.Expr, ast.FunctionDef, ast.ClassDef, ast.ImportFrom,
)
TOP = (ast.ImportFrom, ast.FunctionDef, ast.ClassDef, ast.Assign)
BANNED = (
    ast.SetComp, ast.DictComp, ast.GeneratorExp, ast.NamedExpr, ast.Starred, ast.Await, ast.Yield, ast.YieldFrom,
    ast.Div, ast.MatMult,
)
BUILTINS = """len range enumerate zip min max sum abs sorted reversed int str bool list tuple dict set frozenset
isinstance ord repr any all divmod Exception ValueError TypeError KeyError IndexError LookupError ZeroDivisionError
ArithmeticError OverflowError RuntimeError NotImplementedError AttributeError StopIteration""".split()
METHODS = """append clear copy count endswith extend find get index insert isalnum isalpha isdigit islower isspace
isupper items join keys ljust lower lstrip partition pop remove replace reverse rfind rjust rpartition rsplit rstrip
setdefault split splitlines startswith strip update upper values zfill bit_length""".split()
DUNDERS = ("__init__", "__eq__", "__repr__", "__str__", "__len__")
WORDS = """type typing typing_extensions enum Enum IntEnum StrEnum Flag IntFlag Generic Protocol ABC ABCMeta
namedtuple NamedTuple TypedDict TYPE_CHECKING abstractmethod""".split()
PARTS = ("dataclass", "overload", "contextmanager")
NEVER = ("register", "mro", "elements", "open", "input", "version_info", "with_traceback", "add_note", "format")
BUILTIN_NAMES = set(dir(builtins))


def own_names(tree):
    """The names that a file gives to functions, classes, parameters, locals and values."""
    for node in ast.walk(tree):
        if isinstance(node, (ast.FunctionDef, ast.ClassDef)):
            yield node.name
        elif isinstance(node, ast.arg):
            yield node.arg
        elif isinstance(node, (ast.Name, ast.Attribute)) and isinstance(node.ctx, ast.Store):
            yield node.id if isinstance(node, ast.Name) else node.attr


def methods_and_values(trees):
    methods = set()
    values = set()
    for tree in trees:
        for node in ast.walk(tree):
            if isinstance(node, ast.ClassDef):
                methods.update(part.name for part in node.body if isinstance(part, ast.FunctionDef))
            elif isinstance(node, ast.Attribute) and isinstance(node.ctx, ast.Store):
                values.add(node.attr)
    return methods, values


class Language(unittest.TestCase):
    def setUp(self):
        self.texts = {path: path.read_text(encoding="utf-8") for path in FILES}
        self.trees = {path: ast.parse(text) for path, text in self.texts.items()}

    def nodes(self):
        for path, tree in self.trees.items():
            for node in ast.walk(tree):
                yield node, f"{path.name}:{getattr(node, 'lineno', 0)}"

    def test_files(self):
        self.assertIn(FOLDER / "__init__.py", FILES)
        for path in FILES:
            self.assertRegex(path.name, r"^[a-z0-9_]+\.py$", "L1, L14")

    def test_size_and_signs(self):
        for path, text in self.texts.items():
            self.assertRegex(text, r"^[ -~\n]*$", f"L14 {path.name}")
            rows = text.split("\n")
            self.assertLessEqual(len(rows), 400, f"L10 {path.name}")
            self.assertLessEqual(max(len(row) for row in rows), 120, f"L10 {path.name}")
        for node, where in self.nodes():
            if isinstance(node, ast.FunctionDef):
                self.assertLessEqual(node.end_lineno - node.lineno + 1, 40, f"L10 {where}")

    def test_words(self):
        for path, text in self.texts.items():
            for word in WORDS:
                self.assertIsNone(re.search(rf"\b{word}\b", text), f"L17 {path.name} {word}")
            for part in PARTS:
                self.assertNotIn(part, text, f"L17 {path.name}")

    def test_statements_and_expressions(self):
        for node, where in self.nodes():
            self.assertNotIsInstance(node, BANNED, f"L7 {where}")
            if isinstance(node, ast.stmt):
                self.assertIsInstance(node, STATEMENTS, f"L6 {where}")
            if isinstance(node, ast.Assign):
                self.assertEqual(len(node.targets), 1, f"L6 {where}")
            if isinstance(node, (ast.For, ast.While)):
                self.assertEqual(node.orelse, [], f"L6 {where}")
            if isinstance(node, ast.Constant):
                self.assertNotIsInstance(node.value, (float, bytes, complex), f"L7 {where}")
            if isinstance(node, ast.ListComp):
                self.assertEqual(len(node.generators), 1, f"L7 {where}")
                self.assertLessEqual(len(node.generators[0].ifs), 1, f"L7 {where}")

    def test_functions_and_classes(self):
        for node, where in self.nodes():
            if isinstance(node, (ast.FunctionDef, ast.ClassDef)):
                self.assertEqual(node.decorator_list, [], f"L4, L5 {where}")
            if isinstance(node, ast.arguments):
                self.assertFalse(node.vararg or node.kwarg or node.kwonlyargs or node.posonlyargs, f"L4 {where}")
            if isinstance(node, ast.ClassDef):
                for part in node.body:
                    plain = isinstance(part, ast.FunctionDef) or isinstance(part.value, ast.Constant)
                    self.assertTrue(plain, f"L5 {where}")

    def test_the_top_of_a_file(self):
        for path, tree in self.trees.items():
            self.assertIsInstance(tree.body[0].value, ast.Constant, f"L3 {path.name}")
            bound = []
            kept = []
            for node in tree.body[1:]:
                self.assertIsInstance(node, TOP, f"L3 {path.name}")
                if isinstance(node, ast.Assign):
                    self.assertNotIsInstance(node.value, (ast.Call, ast.BinOp, ast.ListComp), f"L3 {path.name}")
                    bound.append(node.targets[0].id)
                elif isinstance(node, ast.ImportFrom):
                    kept.extend(one.name for one in node.names)
                elif isinstance(node, ast.ClassDef):
                    kept.append(node.name)
                else:
                    bound.append(node.name)
            self.assertEqual(len(set(bound + kept)), len(bound + kept), f"L15 {path.name}")
            for function in ast.walk(tree):
                if isinstance(function, ast.FunctionDef):
                    names = set(own_names(function)) - {function.name}
                    self.assertEqual(names & set(bound + kept), set(), f"L15 {path.name} {function.name}")

    def test_imports(self):
        for node, where in self.nodes():
            if isinstance(node, ast.ImportFrom):
                self.assertRegex(f"{node.level}{node.module}", r"^0staysup\.[a-z0-9_]+$", f"L2, L16 {where}")
                self.assertTrue(all(one.name != "*" and one.asname is None for one in node.names), f"L2 {where}")

    def test_names(self):
        for path, tree in self.trees.items():
            for name in own_names(tree):
                if name not in DUNDERS:
                    self.assertRegex(name, r"^[A-Za-z][A-Za-z0-9_]*$", f"L12 {path.name}")
                    self.assertNotIn(name, NEVER, f"L17 {path.name}")
                    self.assertNotIn(name, BUILTIN_NAMES, f"L15 {path.name}")

    def test_pythons_own_names(self):
        for node, where in self.nodes():
            if isinstance(node, ast.Name) and node.id in BUILTIN_NAMES:
                self.assertIn(node.id, BUILTINS, f"L8 {where}")

    def test_methods_and_values(self):
        methods, values = methods_and_values(self.trees.values())
        self.assertEqual(methods & values, set(), "L18")
        pythons = {name for kind in (str, int, list, dict, set, bytes, tuple) for name in dir(kind)}
        self.assertEqual((methods - set(METHODS) - set(DUNDERS)) & pythons, set(), "L26")
        self.assertEqual(values & pythons, set(), "L26")
        for node, where in self.nodes():
            if isinstance(node, ast.Attribute):
                self.assertIn(node.attr, methods | values | set(METHODS), f"L25 {where}")

    def test_is_stands_beside_none_true_and_false_alone(self):
        for node, where in self.nodes():
            if isinstance(node, ast.Compare) and any(isinstance(op, (ast.Is, ast.IsNot)) for op in node.ops):
                self.assertTrue(all(isinstance(one, ast.Constant) for one in node.comparators), f"L20 {where}")


if __name__ == "__main__":
    unittest.main()
