"""The package's files keep to the small part of Python that they are written in, as far as a walk over them shows."""
import ast
import builtins
import pathlib
import re
import unittest

PACKAGE = pathlib.Path(__file__).resolve().parent.parent / "bobbintexts"

NODES = {
    "Module", "FunctionDef", "ClassDef", "arguments", "arg", "Assign", "AugAssign", "If", "While", "For", "Return",
    "Break", "Continue", "Pass", "Raise", "Expr", "Call", "keyword", "Name", "Load", "Store", "Constant", "Attribute",
    "Subscript", "Slice", "List", "Tuple", "Dict", "ListComp", "comprehension", "IfExp", "BoolOp", "And", "Or",
    "UnaryOp", "Not", "USub", "BinOp", "Add", "Sub", "Mult", "FloorDiv", "Mod", "Compare", "Eq", "NotEq", "Lt", "LtE",
    "Gt", "GtE", "In", "NotIn", "Is", "IsNot", "JoinedStr", "FormattedValue",
}
CALLED = {"len", "range", "enumerate", "zip", "min", "max", "sum", "abs", "sorted", "reversed", "int", "str", "bool",
          "list", "tuple", "dict", "isinstance", "ord", "any", "all", "divmod"}
METHODS = set(
    "append clear copy count endswith extend find get index insert isalnum isalpha isdigit islower isspace isupper "
    "items join keys ljust lower lstrip partition pop remove replace reverse rfind rjust rpartition rsplit rstrip "
    "setdefault split splitlines startswith strip update upper values zfill bit_length".split()
)
WORDS = re.compile(
    r"\b(type|typing|typing_extensions|enum|Enum|IntEnum|StrEnum|Flag|IntFlag|Generic|Protocol|ABC|ABCMeta|namedtuple|"
    r"NamedTuple|TypedDict|TYPE_CHECKING|abstractmethod)\b|dataclass|overload|contextmanager"
)


def bound_names(tree):
    """Every name that a file binds."""
    for node in ast.walk(tree):
        if isinstance(node, ast.Name) and isinstance(node.ctx, ast.Store):
            yield node.id
        elif isinstance(node, ast.arg):
            yield node.arg
        elif isinstance(node, (ast.FunctionDef, ast.ClassDef)):
            yield node.name


class Language(unittest.TestCase):
    def each_file(self):
        for path in sorted(PACKAGE.glob("*.py")):
            text = path.read_text(encoding="utf-8")
            yield text, ast.parse(text)

    def test_files(self):
        found = sorted(path.name for path in PACKAGE.iterdir() if path.name != "__pycache__")
        self.assertEqual(found, ["__init__.py", "lace.py"])

    def test_sizes_and_signs(self):
        for text, tree in self.each_file():
            self.assertRegex(text, r"\A[ -~\n]*\Z")
            self.assertLessEqual(len(text.splitlines()), 400)
            self.assertLessEqual(max(map(len, text.splitlines())), 120)
            self.assertNotRegex(text, WORDS)
            for node in ast.walk(tree):
                if isinstance(node, ast.FunctionDef):
                    self.assertLessEqual(node.end_lineno - node.lineno + 1, 40, node.name)

    def test_forms(self):
        for text, tree in self.each_file():
            for node in ast.walk(tree):
                self.assertIn(node.__class__.__name__, NODES)
                if isinstance(node, ast.Constant):
                    self.assertIn(node.value.__class__, (int, str, bool, None.__class__))
                if isinstance(node, (ast.For, ast.While)):
                    self.assertEqual(node.orelse, [])
                if isinstance(node, ast.Assign):
                    self.assertEqual(len(node.targets), 1)
                if isinstance(node, ast.FormattedValue):
                    self.assertIsInstance(node.value, ast.Name)
                    self.assertIsNone(node.format_spec)

    def test_names(self):
        for text, tree in self.each_file():
            bound = list(bound_names(tree))
            for name in bound:
                self.assertRegex(name, r"\A(__init__|[A-Za-z][A-Za-z0-9_]*)\Z")
                self.assertNotIn(name, vars(builtins))
            for node in ast.walk(tree):
                if isinstance(node, ast.Name) and node.id not in bound:
                    self.assertIn(node.id, CALLED)
                if isinstance(node, ast.Call) and isinstance(node.func, ast.Attribute):
                    self.assertIn(node.func.attr, METHODS)

    def test_top_of_a_file(self):
        for text, tree in self.each_file():
            names = [name for node in tree.body for name in bound_names(ast.Module([node], []))
                     if isinstance(node, ast.Assign)]
            names += [node.name for node in tree.body if isinstance(node, (ast.FunctionDef, ast.ClassDef))]
            self.assertEqual(len(names), len(set(names)))
            for node in tree.body[1:]:
                self.assertIsInstance(node, (ast.Assign, ast.FunctionDef, ast.ClassDef))
                if isinstance(node, ast.Assign):
                    ast.literal_eval(node.value)


if __name__ == "__main__":
    unittest.main()
