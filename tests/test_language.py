"""The package keeps to the small part of Python it is written in, as far as that is told by looking."""

import ast
import builtins
import pathlib
import re
import unittest

PACKAGE = pathlib.Path(__file__).resolve().parent.parent / "firesaved"
FILES = sorted(PACKAGE.rglob("*.py"))

STATEMENTS = (ast.Assign, ast.AugAssign, ast.If, ast.While, ast.For, ast.Return, ast.Break, ast.Continue,
              ast.Pass, ast.Raise, ast.Try, ast.Expr, ast.FunctionDef, ast.ClassDef, ast.ImportFrom)
NOT_USED = (ast.Div, ast.MatMult, ast.SetComp, ast.DictComp, ast.GeneratorExp, ast.NamedExpr, ast.Starred,
            ast.Await, ast.Yield, ast.YieldFrom)
PYTHONS_OWN = set("""len range enumerate zip min max sum abs sorted reversed int str bool list tuple dict set
    frozenset isinstance ord repr any all divmod ValueError KeyError IndexError LookupError ZeroDivisionError
    StopIteration Exception""".split())
NO_WORDS = re.compile(r"""\b(type|typing|typing_extensions|enum|Enum|IntEnum|StrEnum|Flag|IntFlag|Generic
    |Protocol|ABC|ABCMeta|namedtuple|NamedTuple|TypedDict|TYPE_CHECKING|abstractmethod)\b
    |dataclass|overload|contextmanager""", re.VERBOSE)
NO_NAMES = set("""register mro elements open input version_info with_traceback add_note breakpoint compile
    delattr dir eval exec exit gc getattr globals hasattr help id locals os quit setattr super vars sys
    print chr format format_map sort""".split())


def names_of(tree):
    """Every name, argument and attribute that stands in the file."""
    for node in ast.walk(tree):
        for field in ("id", "arg", "attr", "name"):
            name = getattr(node, field, None)
            if isinstance(name, str):
                yield name


class Language(unittest.TestCase):
    def setUp(self):
        self.texts = [path.read_text(encoding="ascii") for path in FILES]
        self.trees = [ast.parse(text) for text in self.texts]

    def test_only_python_files_lie_in_the_package(self):
        there = [path for path in PACKAGE.rglob("*") if path.is_file() and "__pycache__" not in path.parts]
        self.assertEqual(sorted(there), FILES)
        self.assertIn(PACKAGE / "__init__.py", FILES)
        self.assertIn(PACKAGE / "tree.py", FILES)

    def test_sizes_signs_and_words(self):
        for text, tree in zip(self.texts, self.trees):
            lines = text.split("\n")
            self.assertLessEqual(len(lines), 399)
            self.assertLessEqual(max(len(line) for line in lines), 120)
            self.assertTrue(all(" " <= sign <= "~" for line in lines for sign in line))
            self.assertIsNone(NO_WORDS.search(text))
            for node in ast.walk(tree):
                if isinstance(node, ast.FunctionDef):
                    self.assertLessEqual(node.end_lineno - node.lineno + 1, 40, node.name)

    def test_statements_and_expressions(self):
        for tree in self.trees:
            for node in ast.walk(tree):
                if isinstance(node, ast.stmt):
                    self.assertIsInstance(node, STATEMENTS)
                self.assertNotIsInstance(node, NOT_USED)
                if isinstance(node, ast.Assign):
                    self.assertEqual(len(node.targets), 1)
                if isinstance(node, (ast.For, ast.While)):
                    self.assertEqual(node.orelse, [])
                if isinstance(node, ast.Constant):
                    self.assertNotIsInstance(node.value, (float, complex, bytes))
                if isinstance(node, ast.FunctionDef):
                    self.assertEqual(node.decorator_list, [])
                    self.assertIsNone(node.args.vararg or node.args.kwarg)

    def test_only_the_packages_own_imports(self):
        for tree in self.trees:
            for node in ast.walk(tree):
                if isinstance(node, ast.ImportFrom):
                    self.assertEqual((node.level, node.module.split(".")[0]), (0, "firesaved"))
                    self.assertNotIn("*", [alias.name for alias in node.names])

    def test_names(self):
        for tree in self.trees:
            for name in names_of(tree):
                self.assertNotIn(name, NO_NAMES)
                self.assertRegex(name, r"^([A-Za-z][A-Za-z0-9_]*|__(init|eq|repr|str|len)__)$")
            for node in ast.walk(tree):
                if isinstance(node, ast.Name) and hasattr(builtins, node.id):
                    self.assertIn(node.id, PYTHONS_OWN)
                    self.assertIsInstance(node.ctx, ast.Load)


if __name__ == "__main__":
    unittest.main()
