"""Checks the form of the package's files: the rules that can be seen without running them."""

import ast
import pathlib
import re
import unittest

PACKAGE = pathlib.Path(__file__).resolve().parent.parent / "trainseatsdesk"

STATEMENTS = (ast.FunctionDef, ast.ClassDef, ast.Assign, ast.AugAssign, ast.If, ast.While, ast.For, ast.Return,
              ast.Break, ast.Continue, ast.Pass, ast.Raise, ast.Try, ast.Expr, ast.ImportFrom)
EXPRESSIONS_OUT = (ast.Set, ast.SetComp, ast.DictComp, ast.GeneratorExp, ast.NamedExpr, ast.Starred, ast.Div,
                   ast.Await, ast.Yield, ast.YieldFrom)
OWN_NAMES = set("""len range enumerate zip min max sum abs sorted reversed int str bool list tuple dict set frozenset
    isinstance ord repr any all divmod ValueError KeyError IndexError LookupError""".split())
PYTHON_NAMES = set(dir(__builtins__) if not isinstance(__builtins__, dict) else __builtins__)
METHODS = set("""append clear copy count endswith extend find get index insert isalnum isalpha isdigit islower isspace
    isupper items join keys ljust lower lstrip partition pop remove replace reverse rfind rjust rpartition rsplit
    rstrip setdefault split splitlines startswith strip update upper values zfill bit_length""".split())
OWN_METHODS_OUT = set(name for kind in (str, int, list, dict, set, bytes) for name in dir(kind)) - METHODS - {"add"}
WORDS_OUT = re.compile(r"\b(type|typing|typing_extensions|enum|Enum|IntEnum|StrEnum|Flag|IntFlag|Generic|Protocol|ABC"
                       r"|ABCMeta|namedtuple|NamedTuple|TypedDict|TYPE_CHECKING|abstractmethod)\b"
                       r"|dataclass|overload|contextmanager")


class Language(unittest.TestCase):
    def setUp(self):
        self.files = sorted(path for path in PACKAGE.rglob("*") if path.is_file() and "__pycache__" not in path.parts)
        self.trees = {path: ast.parse(path.read_text(encoding="ascii")) for path in self.files}

    def nodes(self, *kinds):
        for path, tree in self.trees.items():
            for node in ast.walk(tree):
                if isinstance(node, kinds):
                    yield f"{path.name}:{getattr(node, 'lineno', 0)}", node

    def test_files(self):
        self.assertIn(PACKAGE / "__init__.py", self.files)
        self.assertIn(PACKAGE / "seating.py", self.files)
        for path in self.files:
            self.assertRegex(path.name, r"^[a-z0-9_]+\.py$")

    def test_signs_and_sizes(self):
        for path in self.files:
            text = path.read_bytes().decode("ascii")
            self.assertRegex(text, r"\A[ -~\n]*\Z")
            self.assertIsNone(WORDS_OUT.search(text), path)
            rows = text.split("\n")
            self.assertLessEqual(len(rows), 400)
            self.assertLessEqual(max(len(one) for one in rows), 120)
        for place, node in self.nodes(ast.FunctionDef):
            self.assertLessEqual(node.end_lineno - node.lineno + 1, 40, place)

    def test_statements(self):
        for place, node in self.nodes(ast.stmt):
            self.assertIsInstance(node, STATEMENTS, place)
        for place, node in self.nodes(ast.For, ast.While):
            self.assertEqual(node.orelse, [], place)
        for place, node in self.nodes(ast.Assign):
            self.assertEqual(len(node.targets), 1, place)
            self.assertNotIsInstance(node.targets[0], ast.Tuple, place)
        for place, node in self.nodes(ast.FunctionDef, ast.ClassDef):
            self.assertEqual(node.decorator_list, [], place)

    def test_expressions(self):
        for place, node in self.nodes(*EXPRESSIONS_OUT):
            self.fail(f"{place}: {ast.dump(node)}")
        for place, node in self.nodes(ast.Constant):
            self.assertIsInstance(node.value, (int, str, bool, type(None)), place)
        for place, node in self.nodes(ast.ListComp):
            self.assertEqual(len(node.generators), 1, place)
            self.assertLessEqual(len(node.generators[0].ifs), 1, place)
        for place, node in self.nodes(ast.Compare):
            for sign, right in zip(node.ops, node.comparators):
                if isinstance(sign, (ast.Is, ast.IsNot)):
                    self.assertIn(getattr(right, "value", right), (None, True, False), place)

    def test_names(self):
        for place, node in self.nodes(ast.Name):
            if isinstance(node.ctx, ast.Load):
                self.assertTrue(node.id not in PYTHON_NAMES or node.id in OWN_NAMES, f"{place}: {node.id}")
            else:
                self.assertNotIn(node.id, PYTHON_NAMES, place)
                self.assertRegex(node.id, r"^[A-Za-z]", place)
        for place, node in self.nodes(ast.arg):
            self.assertNotIn(node.arg, PYTHON_NAMES, place)
            self.assertIsNone(node.annotation, place)

    def test_methods_and_values(self):
        methods = set()
        for place, node in self.nodes(ast.ClassDef):
            for part in node.body:
                if isinstance(part, ast.FunctionDef) and part.name != "__init__":
                    self.assertNotIn(part.name, OWN_METHODS_OUT, place)
                    methods.add(part.name)
        for place, node in self.nodes(ast.Attribute):
            self.assertNotIn(node.attr, OWN_METHODS_OUT, place)
            if isinstance(node.ctx, ast.Store):
                self.assertNotIn(node.attr, methods | METHODS, place)

    def test_imports_are_the_packages_own(self):
        for place, node in self.nodes(ast.ImportFrom):
            self.assertEqual(node.level, 0, place)
            self.assertTrue(node.module.startswith("trainseatsdesk."), place)


if __name__ == "__main__":
    unittest.main()
