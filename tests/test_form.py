"""[0.1]: no clock, chance or files; and the form that the package's code keeps to, as far as a test can see it.

The numbers L1 to L28 are those of the rules of the form.
"""

import ast
import builtins
import pathlib
import re
import unittest

PACKAGE = pathlib.Path(__file__).resolve().parent.parent / "surebest"
FILES = sorted(PACKAGE.rglob("*.py"))

STATEMENTS = (
    ast.FunctionDef, ast.ClassDef, ast.Assign, ast.AugAssign, ast.If, ast.While, ast.For, ast.Return,
    ast.Break, ast.Continue, ast.Pass, ast.Raise, ast.Try, ast.Expr, ast.ImportFrom,
)
EXPRESSIONS = (
    ast.Constant, ast.List, ast.Tuple, ast.Dict, ast.Set, ast.BinOp, ast.UnaryOp, ast.BoolOp, ast.Compare,
    ast.IfExp, ast.Call, ast.Attribute, ast.Subscript, ast.Slice, ast.ListComp, ast.JoinedStr,
    ast.FormattedValue, ast.Name, ast.Lambda,
)
BUILT_IN = (
    "len range enumerate zip min max sum abs sorted reversed int str bool list tuple dict set isinstance ord repr "
    "any all divmod Exception ValueError TypeError KeyError IndexError LookupError ZeroDivisionError "
    "ArithmeticError OverflowError RuntimeError NotImplementedError StopIteration"
).split()
METHODS = (
    "append clear copy count endswith extend find get index insert isalnum isalpha isdigit islower isspace isupper "
    "items join keys ljust lower lstrip partition pop remove replace reverse rfind rjust rpartition rsplit rstrip "
    "setdefault split splitlines startswith strip update upper values zfill bit_length"
).split()
WORDS_THAT_STAND_NOWHERE = re.compile(
    r"\b(type|typing|typing_extensions|enum|Enum|IntEnum|StrEnum|Flag|IntFlag|Generic|Protocol|ABC|ABCMeta|"
    r"namedtuple|NamedTuple|TypedDict|TYPE_CHECKING|abstractmethod)\b|dataclass|overload|contextmanager"
)


def bound_names(tree):
    """Every name that the file binds anywhere."""
    names = set()
    for node in ast.walk(tree):
        if isinstance(node, (ast.FunctionDef, ast.ClassDef)):
            names.add(node.name)
        elif isinstance(node, ast.arg):
            names.add(node.arg)
        elif isinstance(node, ast.alias):
            names.add(node.asname or node.name)
        elif isinstance(node, ast.Name) and isinstance(node.ctx, ast.Store):
            names.add(node.id)
        elif isinstance(node, ast.ExceptHandler) and node.name:
            names.add(node.name)
    return names


def read_files():
    texts = [path.read_text(encoding="utf-8") for path in FILES]
    return [(path.name, text, ast.parse(text)) for path, text in zip(FILES, texts)]


class FormTest(unittest.TestCase):
    def test_the_package_holds_python_files_alone(self):
        self.assertIn(PACKAGE / "__init__.py", FILES)
        others = [path for path in PACKAGE.rglob("*") if path.is_file() and "__pycache__" not in path.parts]
        self.assertEqual(sorted(others), FILES)
        for path in FILES:
            self.assertRegex(path.name, r"\A([a-z][a-z0-9_]*|__init__)\.py\Z")

    def test_signs_and_sizes(self):
        for name, text, tree in read_files():
            self.assertRegex(text, r"\A[ -~\n]*\Z", f"L14 {name}")
            rows = text.split("\n")
            self.assertLessEqual(len(rows), 400, f"L10 {name}")
            self.assertLessEqual(max(len(row) for row in rows), 120, f"L10 {name}")
            for node in ast.walk(tree):
                if isinstance(node, ast.FunctionDef):
                    self.assertLessEqual(node.end_lineno - node.lineno + 1, 40, f"L10 {name}: {node.name}")

    def test_words_that_stand_nowhere(self):
        for name, text, _ in read_files():
            self.assertIsNone(WORDS_THAT_STAND_NOWHERE.search(text), f"L17 {name}")

    def test_imports_of_the_package_alone(self):
        for name, _, tree in read_files():
            for node in ast.walk(tree):
                self.assertNotIsInstance(node, ast.Import, f"L16 {name}")
                if isinstance(node, ast.ImportFrom):
                    self.assertEqual(node.level, 0, f"L2 {name}")
                    self.assertRegex(node.module, r"\Asurebest\.[a-z_]+\Z", f"L2 {name}")
                    self.assertIn(node, tree.body, f"L2 {name}")

    def test_statements_and_expressions(self):
        for name, _, tree in read_files():
            for node in ast.walk(tree):
                where = f"{name}: {getattr(node, 'lineno', '')}"
                if isinstance(node, ast.stmt):
                    self.assertIsInstance(node, STATEMENTS, f"L6 {where}")
                if isinstance(node, ast.expr):
                    self.assertIsInstance(node, EXPRESSIONS, f"L7 {where}")
                if isinstance(node, ast.Constant):
                    self.assertIn(type(node.value), (int, str, bool, type(None)), f"L7 {where}")
                if isinstance(node, ast.BinOp):
                    self.assertNotIsInstance(node.op, (ast.Div, ast.MatMult), f"L7 {where}")
                if isinstance(node, ast.Assign):
                    self.assertEqual(len(node.targets), 1, f"L6 {where}")

    def test_names(self):
        for file, _, tree in read_files():
            own = bound_names(tree)
            for name in own:
                plain = r"\A([A-Za-z][A-Za-z0-9_]*|__(init|eq|repr|str|len)__)\Z"
                self.assertRegex(name, plain, f"L12 {file}")
                self.assertNotIn(name, dir(builtins), f"L15 {file}")
            for node in ast.walk(tree):
                if isinstance(node, ast.Name):
                    self.assertIn(node.id, own | set(BUILT_IN), f"L8 {file}: {node.lineno}")

    def test_methods(self):
        """Calls of methods are those of L25, or of methods that the file itself defines."""
        for name, _, tree in read_files():
            own = bound_names(tree)
            for node in ast.walk(tree):
                if isinstance(node, ast.Call) and isinstance(node.func, ast.Attribute):
                    self.assertIn(node.func.attr, own | set(METHODS), f"L25 {name}: {node.lineno}")

    def test_plain_functions_and_loops(self):
        for name, _, tree in read_files():
            for node in ast.walk(tree):
                where = f"{name}: {getattr(node, 'lineno', '')}"
                if isinstance(node, ast.arguments):
                    self.assertEqual((node.vararg, node.kwarg, node.kwonlyargs), (None, None, []), f"L4 {where}")
                if isinstance(node, (ast.FunctionDef, ast.ClassDef)):
                    self.assertEqual(node.decorator_list, [], f"L4 L5 {where}")
                if isinstance(node, (ast.For, ast.While)):
                    self.assertEqual(node.orelse, [], f"L6 {where}")
                if isinstance(node, ast.ListComp):
                    self.assertEqual(len(node.generators), 1, f"L7 {where}")
                    self.assertLessEqual(len(node.generators[0].ifs), 1, f"L7 {where}")

    def test_is_stands_beside_none_and_the_truths_alone(self):
        for name, _, tree in read_files():
            for node in ast.walk(tree):
                if isinstance(node, ast.Compare) and isinstance(node.ops[0], (ast.Is, ast.IsNot)):
                    kinds = [type(side.value) for side in [node.left] + node.comparators
                             if isinstance(side, ast.Constant)]
                    self.assertTrue(set(kinds) & {bool, type(None)}, f"L20 {name}: {node.lineno}")

    def test_keywords_of_calls(self):
        keywords = {"sorted": {"key", "reverse"}, "min": {"key", "default"}, "max": {"key", "default"},
                    "sum": {"start"}, "enumerate": {"start"}, "zip": {"strict"}}
        for name, _, tree in read_files():
            for node in ast.walk(tree):
                if isinstance(node, ast.Call):
                    called = node.func.id if isinstance(node.func, ast.Name) else ""
                    given = {keyword.arg for keyword in node.keywords}
                    self.assertTrue(given <= keywords.get(called, set()), f"L22 {name}: {node.lineno}")

    def test_no_two_files_draw_from_one_another(self):
        draws = {
            f"surebest.{name[:-3]}": [node.module for node in ast.walk(tree) if isinstance(node, ast.ImportFrom)]
            for name, _, tree in read_files()
        }
        left = dict(draws)
        for _ in draws:
            left = {name: [other for other in drawn if other in left] for name, drawn in left.items() if drawn}
        self.assertEqual(left, {}, "L16")


if __name__ == "__main__":
    unittest.main()
