"""The package's files keep to the small part of Python that they are written in.

A part of the rules is checked here: sizes, signs, imports, statements, classes, and which names and methods are used.
"""

import ast
import builtins
import pathlib
import re
import unittest

PACKAGE = pathlib.Path(__file__).resolve().parent.parent / "halfradio"

STATEMENTS = (
    ast.Assign, ast.AugAssign, ast.If, ast.While, ast.For, ast.Return, ast.Break, ast.Continue, ast.Pass,
    ast.Raise, ast.Try, ast.Expr, ast.FunctionDef, ast.ClassDef, ast.ImportFrom,
)
OUT = (
    ast.Div, ast.Set, ast.SetComp, ast.DictComp, ast.GeneratorExp, ast.NamedExpr, ast.Starred, ast.Yield,
    ast.YieldFrom, ast.Await, ast.MatMult, ast.AnnAssign,
)
BUILTINS = set(
    "len range enumerate zip min max sum abs sorted reversed int str bool list tuple dict set isinstance ord repr"
    " any all divmod ValueError KeyError IndexError LookupError ZeroDivisionError StopIteration Exception".split()
)
METHODS = set(
    "append clear copy count endswith extend find get index insert isalnum isalpha isdigit islower isspace isupper"
    " items join keys ljust lower lstrip partition pop remove replace reverse rfind rjust rpartition rsplit rstrip"
    " setdefault split splitlines startswith strip update upper values zfill bit_length".split()
)
WORDS = re.compile(
    r"\b(type|typing|typing_extensions|enum|Enum|IntEnum|StrEnum|Flag|IntFlag|Generic|Protocol|ABC|ABCMeta|namedtuple"
    r"|NamedTuple|TypedDict|TYPE_CHECKING|abstractmethod)\b|dataclass|overload|contextmanager"
)


class Language(unittest.TestCase):
    def setUp(self):
        self.files = sorted(PACKAGE.rglob("*.py"))
        self.texts = {path: path.read_text(encoding="utf-8") for path in self.files}
        self.trees = {path: ast.parse(text) for path, text in self.texts.items()}
        self.nodes = [(path, node) for path, tree in self.trees.items() for node in ast.walk(tree)]

    def where(self, path, node):
        return f"{path.name}:{getattr(node, 'lineno', 0)} {type(node).__name__}"

    def test_files(self):
        names = [path.name for path in PACKAGE.iterdir() if path.name != "__pycache__"]
        self.assertIn("__init__.py", names)
        for name in names:
            self.assertRegex(name, r"^[a-z0-9_]+\.py$")

    def test_signs_and_sizes(self):
        for path, text in self.texts.items():
            self.assertRegex(text, r"\A[ -~\n]*\Z", path.name)
            self.assertIsNone(WORDS.search(text), path.name)
            lines = text.split("\n")
            self.assertLessEqual(len(lines), 400, path.name)
            self.assertLessEqual(max(len(line) for line in lines), 120, path.name)

    def test_functions(self):
        for path, node in self.nodes:
            if isinstance(node, ast.FunctionDef):
                self.assertLessEqual(node.end_lineno - node.lineno + 1, 40, self.where(path, node))
                self.assertEqual(node.decorator_list, [])
                given = node.args
                self.assertFalse(given.vararg or given.kwarg or given.kwonlyargs or given.posonlyargs)

    def test_statements_and_expressions(self):
        for path, node in self.nodes:
            where = self.where(path, node)
            if isinstance(node, ast.stmt):
                self.assertIsInstance(node, STATEMENTS, where)
            self.assertNotIsInstance(node, OUT, where)
            if isinstance(node, ast.Assign):
                self.assertEqual(len(node.targets), 1, where)
            if isinstance(node, (ast.For, ast.While)):
                self.assertEqual(node.orelse, [], where)
            if isinstance(node, ast.Constant):
                self.assertIsInstance(node.value, (int, str, type(None)), where)
            if isinstance(node, ast.BinOp) and isinstance(node.op, ast.Pow):
                self.assertIsInstance(node.right, ast.Constant, where)

    def test_imports_are_the_packages_own(self):
        for path, node in self.nodes:
            if isinstance(node, ast.ImportFrom):
                where = self.where(path, node)
                self.assertEqual(node.level, 0, where)
                self.assertTrue(node.module.startswith("halfradio."), where)
                self.assertTrue(all(alias.name != "*" for alias in node.names), where)

    def test_names(self):
        python_names = set(dir(builtins))
        for path, node in self.nodes:
            where = self.where(path, node)
            if isinstance(node, ast.Name) and isinstance(node.ctx, ast.Load) and node.id in python_names:
                self.assertIn(node.id, BUILTINS, where)
            if isinstance(node, ast.Name) and isinstance(node.ctx, ast.Store):
                self.assertNotIn(node.id, python_names, where)
                self.assertRegex(node.id, r"^[A-Za-z]", where)
            if isinstance(node, ast.arg):
                self.assertNotIn(node.arg, python_names, where)
                self.assertIsNone(node.annotation, where)

    def test_methods(self):
        own = {node.name for _, node in self.nodes if isinstance(node, ast.FunctionDef)}
        for path, node in self.nodes:
            if isinstance(node, ast.Call) and isinstance(node.func, ast.Attribute):
                self.assertIn(node.func.attr, METHODS | own, self.where(path, node))

    def test_the_top_of_a_file(self):
        for path, tree in self.trees.items():
            bound = []
            for index, node in enumerate(tree.body):
                where = self.where(path, node)
                docstring = index == 0 and isinstance(node, ast.Expr) and isinstance(node.value, ast.Constant)
                kinds = (ast.ImportFrom, ast.FunctionDef, ast.ClassDef, ast.Assign)
                self.assertTrue(docstring or isinstance(node, kinds), where)
                bound += names_bound(node)
            self.assertEqual(len(bound), len(set(bound)), path.name)

    def test_names_are_drawn_from_where_they_are_defined(self):
        defined = {path.stem: {name for node in tree.body if not isinstance(node, ast.ImportFrom)
                               for name in names_bound(node)} for path, tree in self.trees.items()}
        drawn = {path.stem: set() for path in self.files}
        for path, node in self.nodes:
            if isinstance(node, ast.ImportFrom):
                source = node.module.removeprefix("halfradio.")
                drawn[path.stem].add(source)
                for alias in node.names:
                    self.assertIn(alias.name, defined[source], self.where(path, node))
                    self.assertIsNone(alias.asname)
        # Each round takes away the files that draw from none of those left: with a circle some stay.
        for _ in self.files:
            drawn = {name: sources & set(drawn) for name, sources in drawn.items() if sources & set(drawn)}
        self.assertEqual(drawn, {})

    def test_locals_are_not_called_like_imports_or_classes(self):
        for path, tree in self.trees.items():
            taken = {alias.name for node in tree.body if isinstance(node, ast.ImportFrom) for alias in node.names}
            taken |= {node.name for node in tree.body if isinstance(node, ast.ClassDef)}
            for node in ast.walk(tree):
                if isinstance(node, ast.Name) and isinstance(node.ctx, ast.Store):
                    self.assertNotIn(node.id, taken, self.where(path, node))
                if isinstance(node, ast.arg):
                    self.assertNotIn(node.arg, taken, self.where(path, node))

    def test_classes(self):
        methods, values = set(), set()
        for path, node in self.nodes:
            if isinstance(node, ast.ClassDef):
                names = [part.name for part in node.body if isinstance(part, ast.FunctionDef)]
                self.assertEqual(len(names), len(set(names)), self.where(path, node))
                self.assertEqual(node.decorator_list, [])
                methods.update(names)
                for part in node.body:
                    docstring = isinstance(part, ast.Expr) and isinstance(part.value, ast.Constant)
                    self.assertTrue(docstring or isinstance(part, ast.FunctionDef), self.where(path, part))
            if isinstance(node, ast.Attribute) and isinstance(node.ctx, ast.Store):
                values.add(node.attr)
        self.assertEqual(methods & values, set())
        self.assertTrue({name for name in methods if name.startswith("_")} <= {"__init__"})
        pythons = set().union(*[dir(kind) for kind in (str, int, list, tuple, dict, set, bytes)])
        self.assertEqual((methods - {"__init__"} | values) & pythons, set())

    def test_init_gives_back_nothing(self):
        for path, node in self.nodes:
            if isinstance(node, ast.FunctionDef) and node.name == "__init__":
                self.assertFalse(any(isinstance(part, ast.Return) for part in ast.walk(node)), self.where(path, node))

    def test_small_forms(self):
        for path, node in self.nodes:
            where = self.where(path, node)
            if isinstance(node, ast.Compare):
                for operator, right in zip(node.ops, node.comparators):
                    if isinstance(operator, (ast.Is, ast.IsNot)):
                        self.assertIn(ast.unparse(right), ("None", "True", "False"), where)
            if isinstance(node, ast.keyword):
                self.assertIn(node.arg, ("key", "default", "reverse", "start", "strict"), where)
            if isinstance(node, ast.ListComp):
                self.assertEqual(len(node.generators), 1, where)
                self.assertLessEqual(len(node.generators[0].ifs), 1, where)
            if isinstance(node, ast.Constant) and isinstance(node.value, str):
                self.assertNotIn("%", node.value, where)


def names_bound(node):
    if isinstance(node, ast.Assign):
        return [target.id for target in node.targets]
    if isinstance(node, ast.ImportFrom):
        return [alias.name for alias in node.names]
    return [node.name] if isinstance(node, (ast.FunctionDef, ast.ClassDef)) else []


if __name__ == "__main__":
    unittest.main()
