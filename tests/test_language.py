"""The package's files keep to the part of Python that is asked for, as far as a walk through them can tell."""

import ast
import pathlib
import re
import unittest

PACKAGE = pathlib.Path(__file__).resolve().parent.parent / "puzzlemade"
FILES = sorted(PACKAGE.rglob("*.py"))

NODES = (
    ast.Module, ast.ImportFrom, ast.alias, ast.FunctionDef, ast.ClassDef, ast.arguments, ast.arg, ast.Lambda,
    ast.Assign, ast.AugAssign, ast.If, ast.While, ast.For, ast.Return, ast.Break, ast.Continue, ast.Pass, ast.Raise,
    ast.Try, ast.ExceptHandler, ast.Expr, ast.Constant, ast.List, ast.Tuple, ast.Dict, ast.BinOp, ast.UnaryOp,
    ast.Compare, ast.BoolOp, ast.IfExp, ast.Call, ast.keyword, ast.Attribute, ast.Subscript, ast.Slice, ast.Name,
    ast.ListComp, ast.comprehension, ast.expr_context, ast.boolop, ast.operator, ast.unaryop, ast.cmpop,
)
OUTSIDE = (ast.Div, ast.MatMult)
BUILT_IN = """len range enumerate zip min max sum abs sorted reversed int str bool list tuple dict set frozenset
    isinstance ord repr any all divmod KeyError ZeroDivisionError ValueError""".split()
METHODS = """append clear copy count endswith extend find get index insert isalnum isalpha isdigit islower isspace
    isupper items join keys ljust lower lstrip partition pop remove replace reverse rfind rjust rpartition rsplit
    rstrip setdefault split splitlines startswith strip update upper values zfill bit_length""".split()
UNUSED_WORDS = """type typing typing_extensions enum Enum IntEnum StrEnum Flag IntFlag Generic Protocol ABC ABCMeta
    namedtuple NamedTuple TypedDict TYPE_CHECKING abstractmethod""".split()
UNUSED_NAMES = "register mro elements open input version_info with_traceback add_note format format_map".split()
PYTHONS_OWN = set(dir(__builtins__) if not isinstance(__builtins__, dict) else __builtins__)


def names_bound(tree):
    bound = set()
    for node in ast.walk(tree):
        if isinstance(node, (ast.FunctionDef, ast.ClassDef)):
            bound.add(node.name)
        elif isinstance(node, ast.arg):
            bound.add(node.arg)
        elif isinstance(node, ast.Name) and isinstance(node.ctx, ast.Store):
            bound.add(node.id)
        elif isinstance(node, ast.alias):
            bound.add(node.asname or node.name)
    return bound


def attributes_bound(tree):
    own = {node.attr for node in ast.walk(tree) if isinstance(node, ast.Attribute) and isinstance(node.ctx, ast.Store)}
    for node in ast.walk(tree):
        if isinstance(node, ast.ClassDef):
            own |= {method.name for method in node.body if isinstance(method, ast.FunctionDef)}
    return own


class Language(unittest.TestCase):
    @classmethod
    def setUpClass(cls):
        cls.texts = {path: path.read_text(encoding="utf-8") for path in FILES}
        cls.trees = {path: ast.parse(text) for path, text in cls.texts.items()}

    def test_there_are_files_and_nothing_else(self):
        self.assertIn(PACKAGE / "__init__.py", FILES)
        self.assertIn(PACKAGE / "maker.py", FILES)
        for path in PACKAGE.rglob("*"):
            if "__pycache__" not in path.parts:
                self.assertEqual(path.suffix, ".py", path)
                self.assertRegex(path.name, r"^([a-z][a-z0-9_]*|__init__)\.py$")

    def test_sizes_and_letters(self):
        for path, text in self.texts.items():
            lines = text.split("\n")
            self.assertLessEqual(len(lines) - 1, 400, path)
            for line in lines:
                self.assertLessEqual(len(line), 120, (path, line))
                self.assertRegex(line, r"^[ -~]*$", path)
            for node in ast.walk(self.trees[path]):
                if isinstance(node, ast.FunctionDef):
                    self.assertLessEqual(node.end_lineno - node.lineno + 1, 40, (path, node.name))

    def test_words(self):
        for path, text in self.texts.items():
            words = set(re.findall(r"\w+", text))
            self.assertFalse(words & set(UNUSED_WORDS), path)
            self.assertNotRegex(text, "dataclass|overload|contextmanager")
            bound = names_bound(self.trees[path]) | attributes_bound(self.trees[path])
            self.assertFalse(bound & set(UNUSED_NAMES), path)

    def test_statements_and_expressions(self):
        for path, tree in self.trees.items():
            for node in ast.walk(tree):
                self.assertIsInstance(node, NODES, (path, getattr(node, "lineno", 0)))
                self.assertNotIsInstance(node, OUTSIDE, path)
                if isinstance(node, ast.Compare) and isinstance(node.ops[0], (ast.Is, ast.IsNot)):
                    self.assertIsInstance(node.comparators[0], ast.Constant, (path, node.lineno))
                if isinstance(node, ast.Assign):
                    self.assertEqual(len(node.targets), 1, (path, node.lineno))
                    self.assertNotIsInstance(node.targets[0], (ast.Tuple, ast.List), (path, node.lineno))
                if isinstance(node, (ast.For, ast.While)):
                    self.assertFalse(node.orelse, (path, node.lineno))
                if isinstance(node, ast.ListComp):
                    self.assertEqual(len(node.generators), 1, (path, node.lineno))
                    self.assertLessEqual(len(node.generators[0].ifs), 1, (path, node.lineno))
                if isinstance(node, (ast.FunctionDef, ast.ClassDef)):
                    self.assertFalse(node.decorator_list, (path, node.lineno))
                if isinstance(node, ast.Constant):
                    self.assertIsInstance(node.value, (int, str, type(None)), (path, node.lineno))

    def test_imports(self):
        modules = {"puzzlemade." + path.stem: path for path in FILES}
        for path, tree in self.trees.items():
            for node in ast.walk(tree):
                if isinstance(node, ast.ImportFrom):
                    self.assertIn(node, tree.body)
                    self.assertEqual(node.level, 0)
                    tops = {item.name for item in self.trees[modules[node.module]].body if hasattr(item, "name")}
                    for item in self.trees[modules[node.module]].body:
                        if isinstance(item, ast.Assign):
                            tops.add(item.targets[0].id)
                    for drawn in node.names:
                        self.assertIn(drawn.name, tops, path)

    def test_names(self):
        for path, tree in self.trees.items():
            bound = names_bound(tree)
            methods = {"__init__"}
            for name in bound - methods:
                self.assertRegex(name, r"^[A-Za-z][A-Za-z0-9_]*$", path)
            parameters = {node.arg for node in ast.walk(tree) if isinstance(node, ast.arg)}
            stored = {node.id for node in ast.walk(tree) if isinstance(node, ast.Name)
                      and isinstance(node.ctx, ast.Store)}
            self.assertFalse((parameters | stored) & PYTHONS_OWN, path)
            for node in ast.walk(tree):
                if isinstance(node, ast.Name) and node.id not in bound:
                    self.assertIn(node.id, BUILT_IN, (path, node.lineno))

    def test_attributes(self):
        own = set().union(*[attributes_bound(tree) for tree in self.trees.values()])
        for kind in (int, str, list, dict, set, bytes):
            self.assertFalse((own - {"__init__"}) & set(dir(kind)) - set(METHODS), kind)
        for path, tree in self.trees.items():
            for node in ast.walk(tree):
                if isinstance(node, ast.Attribute):
                    self.assertIn(node.attr, own | set(METHODS), (path, node.lineno))

    def test_top_of_files(self):
        for path, tree in self.trees.items():
            self.assertIsNotNone(ast.get_docstring(tree), path)
            bound = []
            for node in tree.body[1:]:
                self.assertIsInstance(node, (ast.ImportFrom, ast.Assign, ast.FunctionDef, ast.ClassDef), path)
                if isinstance(node, ast.Assign):
                    ast.literal_eval(node.value)
                    bound.append(node.targets[0].id)
                elif not isinstance(node, ast.ImportFrom):
                    bound.append(node.name)
            self.assertEqual(len(bound), len(set(bound)), path)


if __name__ == "__main__":
    unittest.main()
