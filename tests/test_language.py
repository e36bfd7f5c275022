"""The package's files keep to the small part of the language that they are written in (the rules L1 to L28)."""

import ast
import pathlib
import re
import unittest

import laystones

FOLDER = pathlib.Path(laystones.__file__).parent

STATEMENTS = (
    ast.Assign, ast.AugAssign, ast.If, ast.While, ast.For, ast.Return, ast.Break, ast.Continue, ast.Pass, ast.Raise,
    ast.Try, ast.Expr, ast.FunctionDef, ast.ClassDef, ast.ImportFrom,
)
EXPRESSIONS = (
    ast.Constant, ast.Name, ast.List, ast.Tuple, ast.Dict, ast.BinOp, ast.UnaryOp, ast.BoolOp, ast.Compare, ast.IfExp,
    ast.Call, ast.Attribute, ast.Subscript, ast.Slice, ast.ListComp, ast.Lambda, ast.JoinedStr, ast.FormattedValue,
)
BUILT_IN = set("""
    len range enumerate zip min max sum abs sorted reversed int str bool list tuple dict set frozenset isinstance ord
    repr any all divmod
""".split())
METHODS = set("""
    append clear copy count endswith extend find get index insert isalnum isalpha isdigit islower isspace isupper items
    join keys ljust lower lstrip partition pop remove replace reverse rfind rjust rpartition rsplit rstrip setdefault
    split splitlines startswith strip update upper values zfill bit_length
""".split())
WORDS = set("""
    type typing typing_extensions enum Enum IntEnum StrEnum Flag IntFlag Generic Protocol ABC ABCMeta namedtuple
    NamedTuple TypedDict TYPE_CHECKING abstractmethod
""".split())


def bound_names(tree):
    """Every name that the file gives a meaning to."""
    names = set()
    for node in ast.walk(tree):
        if isinstance(node, ast.Name) and isinstance(node.ctx, ast.Store):
            names.add(node.id)
        elif isinstance(node, (ast.FunctionDef, ast.ClassDef)):
            names.add(node.name)
        elif isinstance(node, ast.arg):
            names.add(node.arg)
        elif isinstance(node, ast.alias):
            names.add(node.asname or node.name)
    return names


class Language(unittest.TestCase):
    def setUp(self):
        self.files = sorted(path for path in FOLDER.rglob("*") if path.is_file() and path.suffix != ".pyc")
        self.trees = {path: ast.parse(path.read_text("ascii")) for path in self.files}

    def each_node(self, *kinds):
        for path, tree in self.trees.items():
            for node in ast.walk(tree):
                if isinstance(node, kinds):
                    yield path, node

    def test_files(self):
        self.assertIn(FOLDER / "__init__.py", self.files)
        for path in self.files:
            self.assertRegex(path.name, r"^([a-z][a-z0-9_]*|__init__|__main__)\.py$")

    def test_sizes_and_signs(self):
        for path in self.files:
            written = path.read_text("ascii")
            self.assertRegex(written, r"^[ -~\n]*$")
            rows = written.split("\n")
            self.assertLessEqual(len(rows), 400)
            self.assertLessEqual(max(len(row) for row in rows), 120)
        for path, node in self.each_node(ast.FunctionDef):
            self.assertLessEqual(node.end_lineno - node.lineno + 1, 40, (path, node.name))

    def test_imports_are_the_package_own(self):
        for path, node in self.each_node(ast.ImportFrom):
            self.assertEqual(node.level, 0, path)
            self.assertRegex(node.module, r"^laystones\.")
            defined = bound_names(self.trees[FOLDER / (node.module.split(".")[1] + ".py")])
            for alias in node.names:
                self.assertIn(alias.name, defined)

    def test_statements_and_expressions(self):
        for path, node in self.each_node(ast.stmt):
            self.assertIsInstance(node, STATEMENTS, (path, node.lineno))
            self.assertFalse(getattr(node, "orelse", []) and isinstance(node, (ast.For, ast.While)))
            self.assertFalse(getattr(node, "decorator_list", []))
        for path, node in self.each_node(ast.Assign):
            self.assertEqual(len(node.targets), 1, (path, node.lineno))
            self.assertNotIsInstance(node.targets[0], (ast.Tuple, ast.List), (path, node.lineno))
        for path, node in self.each_node(ast.expr):
            self.assertIsInstance(node, EXPRESSIONS, (path, node.lineno))
        for path, node in self.each_node(ast.Div, ast.Pow):
            self.fail(path)
        for path, node in self.each_node(ast.Constant):
            self.assertIsInstance(node.value, (int, str, type(None)), (path, node.lineno))

    def test_top_of_files(self):
        for path, tree in self.trees.items():
            self.assertIsNotNone(ast.get_docstring(tree), path)
            for node in tree.body[1:]:
                self.assertIsInstance(node, (ast.ImportFrom, ast.Assign, ast.FunctionDef, ast.ClassDef))
                if isinstance(node, ast.Assign):
                    ast.literal_eval(node.value)

    def test_parameters(self):
        for path, node in self.each_node(ast.arguments):
            self.assertFalse(node.vararg or node.kwarg or node.kwonlyargs or node.posonlyargs, path)
        for path, node in self.each_node(ast.arg):
            self.assertIsNone(node.annotation, path)

    def test_names(self):
        python_own = set(dir(__import__("builtins")))
        for path, tree in self.trees.items():
            bound = bound_names(tree)
            self.assertFalse(bound & python_own, path)
            self.assertFalse({name for name in bound if name.startswith("_")} - {"__init__"}, path)
            used = {node.id for node in ast.walk(tree) if isinstance(node, ast.Name)}
            self.assertFalse(used - bound - BUILT_IN, path)

    def test_no_local_is_called_like_an_import_or_a_def(self):
        for path, tree in self.trees.items():
            top = {alias.name for node in tree.body if isinstance(node, ast.ImportFrom) for alias in node.names}
            top |= {node.name for node in tree.body if isinstance(node, (ast.ClassDef, ast.FunctionDef))}
            local = {node.id for node in ast.walk(tree) if isinstance(node, ast.Name) and isinstance(node.ctx, ast.Store)}
            local |= {node.arg for node in ast.walk(tree) if isinstance(node, ast.arg)}
            self.assertFalse(top & local, path)

    def test_methods(self):
        for path, node in self.each_node(ast.Call):
            if isinstance(node.func, ast.Attribute):
                self.assertIn(node.func.attr, METHODS, (path, node.lineno))

    def test_is_stands_beside_none_true_false(self):
        for path, node in self.each_node(ast.Compare):
            if any(isinstance(sign, (ast.Is, ast.IsNot)) for sign in node.ops):
                self.assertIsInstance(node.comparators[-1], ast.Constant, (path, node.lineno))
                self.assertIn(node.comparators[-1].value, (None, True, False))

    def test_words(self):
        for path in self.files:
            written = path.read_text("ascii")
            self.assertFalse(set(re.findall(r"\w+", written)) & WORDS, path)
            self.assertNotRegex(written, r"dataclass|overload|contextmanager")


class Interface(unittest.TestCase):
    def test_names_and_order_of_arguments(self):
        tree = ast.parse((FOLDER / "builds.py").read_text("ascii"))
        arguments = {
            node.name: [arg.arg for arg in node.args.args] for node in tree.body if isinstance(node, ast.FunctionDef)
        }
        self.assertEqual(arguments["over"], ["i", "j", "c", "b"])
        self.assertEqual(arguments["can"], ["c", "b"])
        self.assertEqual(arguments["order"], ["c", "b"])
        self.assertEqual(arguments["checks"], ["c", "b", "o"])
        self.assertEqual(arguments["page"], ["i", "c", "b"])
        self.assertEqual(arguments["off"], ["i", "c", "b"])
        self.assertEqual(arguments["make"], ["K", "c", "b"])
        self.assertEqual(arguments["judge"], ["t"])
        self.assertEqual(arguments["right"], ["K", "c", "b", "t"])


if __name__ == "__main__":
    unittest.main()
