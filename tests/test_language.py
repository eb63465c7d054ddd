"""What can be seen of the language rules by looking at the package's files."""

import ast
import re
import unittest
from pathlib import Path

PACKAGE = Path(__file__).resolve().parent.parent / "togethersets"

NODES = {
    "Module", "Expr", "ImportFrom", "alias", "FunctionDef", "arguments", "arg", "ClassDef", "Assign", "If", "While",
    "For", "Return", "Break", "Continue", "Pass", "Raise", "Call", "Name", "Load", "Store", "Constant", "Attribute",
    "Subscript", "Slice", "List", "Tuple", "Dict", "ListComp", "comprehension", "BinOp", "UnaryOp", "BoolOp",
    "Compare", "IfExp", "Add", "Sub", "Mult", "FloorDiv", "Mod", "BitAnd", "BitOr", "BitXor", "Invert", "LShift",
    "RShift", "And", "Or", "Not", "USub", "Eq", "NotEq", "Lt", "LtE", "Gt", "GtE", "Is", "IsNot", "In", "NotIn",
}
BUILT_IN = {"len", "range", "min", "max", "sum", "abs", "sorted", "reversed", "list", "tuple", "dict", "any", "all"}
METHODS = {"append", "extend", "bit_length"}
WORDS = re.compile(
    r"\b(type|typing|typing_extensions|enum|Enum|IntEnum|StrEnum|Flag|IntFlag|Generic|Protocol|ABC|ABCMeta|namedtuple"
    r"|NamedTuple|TypedDict|TYPE_CHECKING|abstractmethod)\b|dataclass|overload|contextmanager")


def bound_names(tree):
    names = []
    for node in ast.walk(tree):
        if isinstance(node, (ast.FunctionDef, ast.ClassDef)):
            names.append(node.name)
        elif isinstance(node, ast.arg):
            names.append(node.arg)
        elif isinstance(node, ast.Name) and isinstance(node.ctx, ast.Store):
            names.append(node.id)
        elif isinstance(node, ast.ImportFrom):
            names += [alias.name for alias in node.names]
    return names


class Language(unittest.TestCase):
    def setUp(self):
        found = [path for path in sorted(PACKAGE.iterdir()) if path.name != "__pycache__"]
        self.assertTrue(found)
        for path in found:
            self.assertRegex(path.name, r"\A(__init__|[a-z][a-z0-9_]*)\.py\Z")
        self.texts = {path.stem: path.read_text(encoding="utf-8") for path in found}
        self.trees = {name: ast.parse(text) for name, text in self.texts.items()}

    def walk(self):
        for name, tree in self.trees.items():
            for node in ast.walk(tree):
                yield f"{name}:{getattr(node, 'lineno', 0)}", node

    def test_signs_words_and_sizes(self):
        for name, text in self.texts.items():
            rows = text.split("\n")
            self.assertLessEqual(len(rows), 400, name)
            self.assertIsNone(WORDS.search(text), name)
            for row in rows:
                self.assertLessEqual(len(row), 120, row)
                self.assertTrue(all(" " <= sign <= "~" for sign in row), row)
        for place, node in self.walk():
            if isinstance(node, ast.FunctionDef):
                self.assertLessEqual(node.end_lineno - node.lineno + 1, 40, place)

    def test_statements_and_expressions(self):
        for place, node in self.walk():
            self.assertIn(type(node).__name__, NODES, place)
            if isinstance(node, ast.Assign):
                self.assertEqual(len(node.targets), 1, place)
            if isinstance(node, (ast.For, ast.While)):
                self.assertEqual(node.orelse, [], place)
            if isinstance(node, (ast.FunctionDef, ast.ClassDef)):
                self.assertEqual(node.decorator_list, [], place)
            if isinstance(node, ast.Constant):
                self.assertIn(type(node.value), (int, str, bool, type(None)), place)
            if isinstance(node, ast.ListComp):
                self.assertEqual(len(node.generators), 1, place)

    def test_imports_are_the_packages_own(self):
        for place, node in self.walk():
            if isinstance(node, ast.ImportFrom):
                self.assertEqual(node.level, 0, place)
                self.assertTrue(node.module.startswith("togethersets."), place)
                defined = bound_names(self.trees[node.module.split(".")[1]])
                for alias in node.names:
                    self.assertIn(alias.name, defined, place)
                    self.assertIsNone(alias.asname, place)

    def test_names(self):
        allowed = dir(__builtins__) if not isinstance(__builtins__, dict) else list(__builtins__)
        for name, tree in self.trees.items():
            for bound in bound_names(tree):
                self.assertNotIn(bound, allowed, name)
                self.assertTrue(bound == "__init__" or not bound.startswith("_"), (name, bound))
            read = [node.id for node in ast.walk(tree) if isinstance(node, ast.Name)]
            for used in read:
                self.assertTrue(used in BUILT_IN or used in bound_names(tree), (name, used))

    def test_methods(self):
        own = {node.name for place, node in self.walk() if isinstance(node, ast.FunctionDef)}
        for place, node in self.walk():
            if isinstance(node, ast.Call) and isinstance(node.func, ast.Attribute):
                self.assertIn(node.func.attr, METHODS | own, place)


if __name__ == "__main__":
    unittest.main()
