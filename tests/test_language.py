"""What of LANGUAGE.md a program can see in the package's own files; each check names its rule."""

import ast
import builtins
import pathlib
import re
import unittest

PACKAGE = pathlib.Path(__file__).resolve().parent.parent / "tyremixes"
FILES = sorted(PACKAGE.glob("*.py"))

OWN_NAMES = set(
    "len range enumerate zip min max sum abs sorted reversed int str bool list tuple dict set frozenset isinstance "
    "ord repr any all divmod Exception ValueError TypeError KeyError IndexError LookupError ZeroDivisionError "
    "ArithmeticError OverflowError RuntimeError NotImplementedError AttributeError StopIteration".split())
METHODS = set(
    "append clear copy count endswith extend find get index insert isalnum isalpha isdigit islower isspace isupper "
    "items join keys ljust lower lstrip partition pop remove replace reverse rfind rjust rpartition rsplit rstrip "
    "setdefault split splitlines startswith strip update upper values zfill bit_length".split())
UNUSED = set(
    "register mro elements open input version_info with_traceback add_note attrgetter breakpoint builtins compile "
    "copyright credits delattr dir eval exec exit gc getattr globals hasattr help id importlib license locals "
    "methodcaller os quit setattr super type vars sys format format_map".split())
WORDS = re.compile(
    r"\b(type|typing|typing_extensions|enum|Enum|IntEnum|StrEnum|Flag|IntFlag|Generic|Protocol|ABC|ABCMeta|namedtuple"
    r"|NamedTuple|TypedDict|TYPE_CHECKING|abstractmethod)\b|dataclass|overload|contextmanager")
ALLOWED = (
    ast.Module, ast.ImportFrom, ast.alias, ast.FunctionDef, ast.ClassDef, ast.arguments, ast.arg, ast.Lambda,
    ast.Assign, ast.AugAssign, ast.If, ast.While, ast.For, ast.Return, ast.Break, ast.Continue, ast.Pass, ast.Raise,
    ast.Try, ast.ExceptHandler, ast.Expr, ast.Name, ast.Constant, ast.List, ast.Tuple, ast.Dict, ast.BinOp,
    ast.UnaryOp, ast.Compare, ast.BoolOp, ast.IfExp, ast.Call, ast.keyword, ast.Attribute, ast.Subscript, ast.Slice,
    ast.ListComp, ast.comprehension, ast.JoinedStr, ast.FormattedValue,
    ast.expr_context, ast.operator, ast.unaryop, ast.boolop, ast.cmpop,
)
LATE = ("zip", "enumerate", "reversed", "range")


def bound_names(tree):
    """Every name that a file gives a meaning, with its row."""
    for node in ast.walk(tree):
        if isinstance(node, (ast.FunctionDef, ast.ClassDef)):
            yield node.name, node.lineno
        elif isinstance(node, ast.arg):
            yield node.arg, node.lineno
        elif isinstance(node, ast.Name) and isinstance(node.ctx, ast.Store):
            yield node.id, node.lineno
        elif isinstance(node, ast.alias):
            yield node.asname or node.name, node.lineno


def top_names(tree):
    for node in tree.body:
        if isinstance(node, (ast.FunctionDef, ast.ClassDef)):
            yield node.name
        elif isinstance(node, ast.Assign):
            yield from [target.id for target in node.targets]
        elif isinstance(node, ast.ImportFrom):
            yield from [alias.name for alias in node.names]


class Language(unittest.TestCase):
    def setUp(self):
        self.texts = {path.name: path.read_text(encoding="ascii") for path in FILES}
        self.trees = {name: ast.parse(text) for name, text in self.texts.items()}

    def nodes(self, *kinds):
        for name, tree in self.trees.items():
            for node in ast.walk(tree):
                if isinstance(node, kinds):
                    yield f"{name}:{getattr(node, 'lineno', 0)}", node

    def test_files(self):
        """L1, L14"""
        found = [path.name for path in PACKAGE.iterdir() if path.name != "__pycache__"]
        self.assertEqual(sorted(found), [path.name for path in FILES])
        self.assertIn("__init__.py", found)
        for name in found:
            self.assertRegex(name, r"^([a-z][a-z0-9_]*|__init__|__main__)\.py$")
            self.assertNotIn(name[:-3], set(dir(builtins)) | UNUSED)
            self.assertNotRegex(name, r"^(test.*|site|conftest|sitecustomize|usercustomize)\.py$")

    def test_signs_and_sizes(self):
        """L10, L14"""
        for name, text in self.texts.items():
            self.assertRegex(text, r"\A[ -~\n]*\Z", name)
            rows = text.splitlines()
            self.assertLessEqual(len(rows), 400, name)
            self.assertLessEqual(max([len(row) for row in rows], default=0), 120, name)
        for place, node in self.nodes(ast.FunctionDef):
            self.assertLessEqual(node.end_lineno - node.lineno + 1, 40, place)

    def test_statements_and_expressions(self):
        """L4 to L7, L20, L21"""
        for place, node in self.nodes(ast.AST):
            self.assertIsInstance(node, ALLOWED, place)
            self.assertNotIsInstance(node, (ast.Div, ast.MatMult, ast.Pow, ast.Starred), place)
            if isinstance(node, (ast.FunctionDef, ast.ClassDef)):
                self.assertEqual(node.decorator_list, [], place)
            if isinstance(node, ast.arguments):
                self.assertFalse(node.vararg or node.kwarg or node.kwonlyargs or node.posonlyargs, place)
            if isinstance(node, (ast.For, ast.While)):
                self.assertEqual(node.orelse, [], place)
            if isinstance(node, ast.Assign):
                self.assertEqual(len(node.targets), 1, place)
            if isinstance(node, ast.Constant):
                self.assertIsInstance(node.value, (int, str, type(None)), place)
            if isinstance(node, ast.Expr):
                self.assertIsInstance(node.value, (ast.Call, ast.Constant), place)
            if isinstance(node, ast.ListComp):
                self.assertEqual(len(node.generators), 1, place)
                self.assertLessEqual(len(node.generators[0].ifs), 1, place)
            if isinstance(node, ast.FormattedValue):
                self.assertIsInstance(node.value, ast.Name, place)
            if isinstance(node, ast.Compare) and any(isinstance(op, (ast.Is, ast.IsNot)) for op in node.ops):
                self.assertTrue(all(isinstance(one, ast.Constant) for one in node.comparators), place)

    def test_tops_and_imports(self):
        """L2, L3, L15, L16"""
        drawn = {}
        for name, tree in self.trees.items():
            for node in tree.body:
                self.assertIsInstance(
                    node, (ast.ImportFrom, ast.FunctionDef, ast.ClassDef, ast.Assign, ast.Expr), name)
                if isinstance(node, ast.Expr):
                    self.assertIsInstance(node.value, ast.Constant, name)
            names = list(top_names(tree))
            self.assertEqual(len(names), len(set(names)), name)
            drawn[name] = [node.module for node in ast.walk(tree) if isinstance(node, ast.ImportFrom)]
        for place, node in self.nodes(ast.ImportFrom):
            self.assertEqual(node.level, 0, place)
            self.assertTrue(node.module.startswith("tyremixes."), place)
            home = self.trees[node.module.split(".")[1] + ".py"]
            own = [one.name for one in home.body if isinstance(one, (ast.FunctionDef, ast.ClassDef))]
            own += [one.targets[0].id for one in home.body if isinstance(one, ast.Assign)]
            for alias in node.names:
                self.assertIn(alias.name, own, place)
        while drawn:
            free = [name for name, modules in drawn.items()
                    if not any(module.split(".")[1] + ".py" in drawn for module in modules)]
            self.assertTrue(free, f"files draw from one another: {sorted(drawn)}")
            drawn = {name: modules for name, modules in drawn.items() if name not in free}

    def test_names(self):
        """L8, L12, L15, L17"""
        for name, text in self.texts.items():
            self.assertIsNone(WORDS.search(text), name)
            tree = self.trees[name]
            taken = {node.name for node in tree.body if isinstance(node, ast.ClassDef)}
            taken |= {alias.name for node in tree.body if isinstance(node, ast.ImportFrom) for alias in node.names}
            for bound, row in bound_names(tree):
                place = f"{name}:{row} {bound}"
                self.assertNotIn(bound, UNUSED | set(dir(builtins)), place)
                if bound not in ("__init__", "__eq__", "__repr__", "__str__", "__len__"):
                    self.assertRegex(bound, r"^[A-Za-z][A-Za-z0-9_]*$", place)
            known = {bound for bound, row in bound_names(tree)}
            for node in ast.walk(tree):
                if isinstance(node, ast.Name):
                    self.assertIn(node.id, known | OWN_NAMES, f"{name}:{node.lineno}")
                    if isinstance(node.ctx, ast.Store):
                        self.assertNotIn(node.id, taken, f"{name}:{node.lineno}")
                if isinstance(node, ast.arg):
                    self.assertNotIn(node.arg, taken, f"{name}:{node.lineno}")

    def test_methods_and_values(self):
        """L18, L25, L26"""
        methods, values = set(), set()
        for place, node in self.nodes(ast.ClassDef):
            own = [one.name for one in node.body if isinstance(one, ast.FunctionDef)]
            self.assertEqual(len(own), len(set(own)), place)
            methods |= set(own)
        for place, node in self.nodes(ast.Attribute):
            self.assertNotIn(node.attr, UNUSED, place)
            if isinstance(node.ctx, ast.Store):
                self.assertIsInstance(node.value, ast.Name, place)
                values.add(node.attr)
        self.assertEqual(methods & values, set())
        pythons = set(dir(str)) | set(dir(int)) | set(dir(list)) | set(dir(dict)) | set(dir(set)) | set(dir(bytes))
        self.assertEqual(values & pythons, set())
        for place, node in self.nodes(ast.Attribute):
            self.assertIn(node.attr, METHODS | methods | values, place)

    def test_walked_at_once(self):
        """L22, L23, L24"""
        for name, tree in self.trees.items():
            parent = {}
            for node in ast.walk(tree):
                for child in ast.iter_child_nodes(node):
                    parent[child] = node
            for node in ast.walk(tree):
                if not (isinstance(node, ast.Call) and isinstance(node.func, ast.Name)):
                    continue
                place = f"{name}:{node.lineno}"
                above = parent[node]
                if node.func.id in LATE:
                    walked = isinstance(above, (ast.For, ast.comprehension)) and above.iter == node
                    inside = isinstance(above, ast.Call) and above.args[:1] == [node]
                    self.assertTrue(walked or inside, place)
                if node.func.id == "set":
                    while isinstance(above, ast.BinOp):
                        above = parent[above]
                    beside = isinstance(above, ast.Compare)
                    inside = isinstance(above, ast.Call) and above.func.id in ("sorted", "len")
                    self.assertTrue(beside or inside, place)


if __name__ == "__main__":
    unittest.main()
