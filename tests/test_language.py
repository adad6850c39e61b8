"""The rules of LANGUAGE.md that can be read off the package's files; the others are the reader's."""

import ast
import builtins
import re
import unittest
from pathlib import Path

PACKAGE = Path(__file__).resolve().parent.parent / "turns"

# L3 to L7, less what this package has had no need of.
NODES = set("""
    Module FunctionDef arguments arg Expr Assign If While For Return Break Continue Pass
    Constant Name Load Store List Tuple Dict BinOp UnaryOp BoolOp Compare IfExp Call Attribute Subscript Slice
    ListComp comprehension keyword Lambda
    Add Sub Mult FloorDiv Mod And Or Not USub Eq NotEq Lt LtE Gt GtE In NotIn
""".split())

# L8.
OWN_NAMES = set("""
    len range enumerate zip min max sum abs sorted reversed int str bool list tuple dict isinstance any all divmod
""".split())

# L25.
METHODS = set("""
    append clear copy count extend get index insert items keys pop remove reverse setdefault update values
""".split())

# L17.
WORDS_NOWHERE = re.compile(
    r"\b(type|typing|typing_extensions|enum|Enum|IntEnum|StrEnum|Flag|IntFlag|Generic|Protocol|ABC|ABCMeta"
    r"|namedtuple|NamedTuple|TypedDict|TYPE_CHECKING|abstractmethod)\b|dataclass|overload|contextmanager"
)


def files():
    return sorted(PACKAGE.glob("*.py"))


def nodes():
    for path in files():
        for node in ast.walk(ast.parse(path.read_text(encoding="utf-8"))):
            yield path.name, node


def names_bound(tree):
    """Names that a file binds: defs, parameters and what is assigned."""
    for node in ast.walk(tree):
        if isinstance(node, ast.FunctionDef):
            yield node.name
        elif isinstance(node, ast.arg):
            yield node.arg
        elif isinstance(node, ast.Name) and isinstance(node.ctx, ast.Store):
            yield node.id


class Language(unittest.TestCase):
    def test_the_package_folder_holds_its_files_alone(self):
        names = [path.name for path in PACKAGE.iterdir() if path.name != "__pycache__"]
        self.assertIn("__init__.py", names)
        self.assertIn("offices.py", names)
        for name in names:
            self.assertRegex(name, r"\A[a-z0-9_]+\.py\Z")

    def test_signs_and_sizes(self):
        for path in files():
            text = path.read_bytes().decode("ascii")
            self.assertLessEqual(text.count("\n"), 400, path.name)
            for row in text.split("\n"):
                self.assertLessEqual(len(row), 120, path.name)
                self.assertTrue(all(" " <= sign <= "~" for sign in row), (path.name, row))
            self.assertIsNone(WORDS_NOWHERE.search(text), path.name)

    def test_only_forms_that_are_let(self):
        for name, node in nodes():
            self.assertIn(type(node).__name__, NODES, (name, getattr(node, "lineno", 0)))
            if isinstance(node, ast.Constant):
                self.assertIn(type(node.value), (int, str, bool, type(None)), (name, node.lineno))
            if isinstance(node, ast.Assign):
                self.assertEqual(len(node.targets), 1, (name, node.lineno))
            if isinstance(node, ast.Attribute):
                self.assertIn(node.attr, METHODS, (name, node.lineno))

    def test_functions(self):
        for name, node in nodes():
            if isinstance(node, ast.FunctionDef):
                self.assertLessEqual(node.end_lineno - node.lineno + 1, 40, (name, node.name))
                self.assertEqual(node.decorator_list, [], (name, node.name))
                self.assertIsNone(node.returns, (name, node.name))
            if isinstance(node, ast.arguments):
                self.assertIsNone(node.vararg or node.kwarg, name)
                self.assertEqual(node.kwonlyargs + node.posonlyargs, [], name)
            if isinstance(node, ast.arg):
                self.assertIsNone(node.annotation, (name, node.arg))

    def test_names(self):
        for path in files():
            tree = ast.parse(path.read_text(encoding="utf-8"))
            bound = set(names_bound(tree))
            for name in bound:
                self.assertFalse(name.startswith("_"), (path.name, name))
                self.assertFalse(hasattr(builtins, name), (path.name, name))
            for node in ast.walk(tree):
                if isinstance(node, ast.Name):
                    self.assertIn(node.id, bound | OWN_NAMES, (path.name, node.lineno))

    def test_the_top_of_a_file_binds_each_name_once_to_a_plain_value(self):
        for path in files():
            tree = ast.parse(path.read_text(encoding="utf-8"))
            self.assertIsNotNone(ast.get_docstring(tree), path.name)
            bound = []
            for node in tree.body[1:]:
                self.assertIsInstance(node, (ast.FunctionDef, ast.Assign), (path.name, node.lineno))
                if isinstance(node, ast.Assign):
                    ast.literal_eval(node.value)
                    bound.append(node.targets[0].id)
                else:
                    bound.append(node.name)
            self.assertEqual(len(bound), len(set(bound)), path.name)


if __name__ == "__main__":
    unittest.main()
