"""The package keeps to the part of Python that it is to be written in (rules L1 to L28, as far as a test sees them)."""

import ast
import builtins
import re
import unittest
from pathlib import Path

PACKAGE = Path(__file__).resolve().parent.parent / "wright"
FILES = sorted(PACKAGE.glob("*.py"))

OWN_NAMES = set(
    "len range enumerate zip min max sum abs sorted reversed int str bool list tuple dict set frozenset isinstance ord "
    "repr any all divmod Exception ValueError TypeError KeyError IndexError LookupError ZeroDivisionError "
    "ArithmeticError OverflowError RuntimeError NotImplementedError AttributeError StopIteration".split())
OWN_METHODS = set(
    "append clear copy count endswith extend find get index insert isalnum isalpha isdigit islower isspace isupper "
    "items join keys ljust lower lstrip partition pop remove replace reverse rfind rjust rpartition rsplit rstrip "
    "setdefault split splitlines startswith strip update upper values zfill bit_length".split())
TWO_UNDERSCORES = {"__init__", "__eq__", "__repr__", "__str__", "__len__"}
NOWHERE = (
    r"\b(type|typing|typing_extensions|enum|Enum|IntEnum|StrEnum|Flag|IntFlag|Generic|Protocol|ABC|ABCMeta|namedtuple"
    r"|NamedTuple|TypedDict|TYPE_CHECKING|abstractmethod)\b|dataclass|overload|contextmanager")
STATEMENTS = (
    ast.Assign, ast.AugAssign, ast.If, ast.While, ast.For, ast.Return, ast.Break, ast.Continue, ast.Pass, ast.Raise,
    ast.Try, ast.Expr, ast.FunctionDef, ast.ClassDef, ast.ImportFrom)
EXPRESSIONS = (
    ast.Constant, ast.Name, ast.Attribute, ast.Subscript, ast.Slice, ast.Call, ast.List, ast.Tuple, ast.Dict, ast.BinOp,
    ast.UnaryOp, ast.BoolOp, ast.Compare, ast.IfExp, ast.ListComp, ast.JoinedStr, ast.FormattedValue, ast.Lambda)
WALKED = {"zip", "enumerate", "reversed", "range"}
BUILT_IN = {name for name in dir(builtins) if not name.startswith("_")}
METHODS_OF_VALUES = {
    name for value in ("", 0, [], {}, set(), b"", ()) for name in dir(value)} - {"add", "discard"}


def tree_of(path):
    return ast.parse(path.read_text(encoding="ascii"))


def nodes_of(path, kinds):
    return [node for node in ast.walk(tree_of(path)) if isinstance(node, kinds)]


class LanguageTest(unittest.TestCase):
    def each(self, kinds):
        for path in FILES:
            for node in nodes_of(path, kinds):
                yield f"{path.name}:{getattr(node, 'lineno', 0)}", node

    def test_files_signs_and_sizes(self):
        self.assertIn(PACKAGE / "__init__.py", FILES)
        for path in PACKAGE.iterdir():
            if path.name != "__pycache__":
                self.assertRegex(path.name, r"^[a-z0-9_]+\.py$")
                self.assertNotIn(path.stem, BUILT_IN)
        for path in FILES:
            text = path.read_text(encoding="ascii")
            self.assertRegex(text, r"^[\n -~]*\Z", path.name)
            self.assertIsNone(re.search(NOWHERE, text), path.name)
            self.assertLessEqual(len(text.splitlines()), 400, path.name)
            for number, line in enumerate(text.splitlines(), start=1):
                self.assertLessEqual(len(line), 120, f"{path.name}:{number}")

    def test_imports(self):
        drawn = {}
        for path in FILES:
            drawn[path.stem] = []
            for node in nodes_of(path, ast.ImportFrom):
                self.assertEqual(node.level, 0, path.name)
                self.assertRegex(node.module, r"^wright\.[a-z0-9_]+$")
                stem = node.module.split(".")[1]
                drawn[path.stem].append(stem)
                top = tree_of(PACKAGE / f"{stem}.py").body
                bound = {one.name for one in top if isinstance(one, (ast.FunctionDef, ast.ClassDef))}
                bound |= {one.targets[0].id for one in top if isinstance(one, ast.Assign)}
                for name in node.names:
                    self.assertIn(name.name, bound, path.name)
                    self.assertIsNone(name.asname, path.name)
        while drawn:
            free = [stem for stem in drawn if not set(drawn[stem]) & set(drawn)]
            self.assertTrue(free, f"these draw from one another: {sorted(drawn)}")
            for stem in free:
                drawn.pop(stem)

    def test_tops_of_files(self):
        for path in FILES:
            bound = []
            top = tree_of(path).body
            self.assertIsInstance(ast.literal_eval(top[0].value), str, path.name)
            for node in top[1:]:
                self.assertIsInstance(node, (ast.ImportFrom, ast.FunctionDef, ast.ClassDef, ast.Assign), path.name)
                if isinstance(node, ast.ImportFrom):
                    bound += [name.name for name in node.names]
                else:
                    bound.append(node.targets[0].id if isinstance(node, ast.Assign) else node.name)
            self.assertEqual(sorted(bound), sorted(set(bound)), path.name)

    def test_statements(self):
        for where, node in self.each(ast.stmt):
            self.assertIsInstance(node, STATEMENTS, where)
            if isinstance(node, (ast.While, ast.For)):
                self.assertFalse(node.orelse, where)
            if isinstance(node, ast.Try):
                self.assertFalse(node.finalbody, where)
            if isinstance(node, ast.Assign):
                self.assertEqual(len(node.targets), 1, where)
                self.assertNotIsInstance(node.targets[0], (ast.Tuple, ast.List), where)
        for path in FILES:
            for node in nodes_of(path, ast.Expr)[1:]:
                self.assertIsInstance(node.value, ast.Call, f"{path.name}:{node.lineno}")

    def test_expressions(self):
        for where, node in self.each(ast.expr):
            self.assertIsInstance(node, EXPRESSIONS, where)
            if isinstance(node, ast.Constant):
                self.assertIsInstance(node.value, (int, str, type(None)), where)
                self.assertNotIn("%", str(node.value), where)
            if isinstance(node, ast.BinOp):
                self.assertNotIsInstance(node.op, (ast.Div, ast.MatMult), where)
            if isinstance(node, ast.ListComp):
                self.assertEqual(len(node.generators), 1, where)
                self.assertLessEqual(len(node.generators[0].ifs), 1, where)
            if isinstance(node, ast.FormattedValue):
                self.assertIsInstance(node.value, ast.Name, where)
                self.assertIsNone(node.format_spec, where)
            if isinstance(node, ast.Compare):
                for op, right in zip(node.ops, node.comparators):
                    if isinstance(op, (ast.Is, ast.IsNot)):
                        self.assertIsInstance(right, ast.Constant, where)

    def test_functions_and_classes(self):
        for where, node in self.each(ast.FunctionDef):
            self.assertLessEqual(node.end_lineno - node.lineno + 1, 40, where)
            self.assertFalse(node.decorator_list, where)
            self.assertIsNone(node.returns, where)
            self.assertFalse(node.args.vararg or node.args.kwarg or node.args.kwonlyargs or node.args.posonlyargs)
        for where, node in self.each(ast.ClassDef):
            self.assertFalse(node.decorator_list or node.keywords, where)
            self.assertLessEqual(len(node.bases), 1, where)
            for one in node.body:
                self.assertIsInstance(one, (ast.FunctionDef, ast.Pass), where)

    def test_names(self):
        for path in FILES:
            top = {one.name for one in tree_of(path).body if isinstance(one, (ast.FunctionDef, ast.ClassDef))}
            imported = {name.name for node in nodes_of(path, ast.ImportFrom) for name in node.names}
            bound = {node.id for node in nodes_of(path, ast.Name) if isinstance(node.ctx, ast.Store)}
            bound |= {node.arg for node in nodes_of(path, ast.arg)}
            defined = {node.name for node in nodes_of(path, ast.FunctionDef)}
            for name in (bound | defined | top) - TWO_UNDERSCORES:
                self.assertRegex(name, r"^[A-Za-z][A-Za-z0-9_]*$", path.name)
            self.assertFalse(bound & (BUILT_IN | imported), path.name)
            self.assertFalse(defined & BUILT_IN, path.name)
            read = {node.id for node in nodes_of(path, ast.Name) if isinstance(node.ctx, ast.Load)}
            self.assertFalse(read - bound - top - imported - OWN_NAMES, path.name)

    def test_methods_and_values(self):
        methods = set()
        values = set()
        for where, node in self.each(ast.ClassDef):
            methods |= {one.name for one in node.body if isinstance(one, ast.FunctionDef)}
            values |= {one.attr for one in ast.walk(node)
                       if isinstance(one, ast.Attribute) and isinstance(one.ctx, ast.Store)}
        self.assertFalse(methods & values)
        self.assertFalse((values | methods - TWO_UNDERSCORES) & METHODS_OF_VALUES)
        for where, node in self.each(ast.Attribute):
            self.assertIn(node.attr, methods | values | OWN_METHODS, where)

    def test_walked_on_the_spot_and_sets(self):
        for path in FILES:
            tree = tree_of(path)
            allowed = set()
            for node in ast.walk(tree):
                if isinstance(node, (ast.For, ast.comprehension)):
                    allowed.add(node.iter)
                if isinstance(node, ast.Call) and isinstance(node.func, ast.Name) and node.args:
                    if node.func.id in {"list", "tuple", "dict", "sorted", "sum", "any", "all", "enumerate", "zip",
                                        "min", "max", "len"}:
                        allowed.update(node.args)
            for node in ast.walk(tree):
                if isinstance(node, ast.Call) and isinstance(node.func, ast.Name):
                    if node.func.id in WALKED or node.func.id == "set":
                        self.assertIn(node, allowed, f"{path.name}:{node.lineno}")


if __name__ == "__main__":
    unittest.main()
