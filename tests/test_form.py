"""The form of the package: the rules of ../shared/LANGUAGE.md, and that it imports nothing.

The package uses less than the rules allow (no class, no import, no set, no lambda, no
try), and this test holds it to that smaller part. A call that needs more widens it.
"""

import ast
import builtins
import pathlib
import re
import unittest

PACKAGE = pathlib.Path(__file__).resolve().parent.parent / "roompaths"

NODES = (
    ast.Module, ast.FunctionDef, ast.arguments, ast.arg, ast.Expr, ast.Assign, ast.AugAssign,
    ast.If, ast.While, ast.For, ast.Return, ast.Break, ast.Continue, ast.Pass,
    ast.Constant, ast.Name, ast.List, ast.Tuple, ast.Dict, ast.Load, ast.Store,
    ast.BinOp, ast.Add, ast.Sub, ast.Mult, ast.FloorDiv, ast.Mod,
    ast.UnaryOp, ast.USub, ast.Not, ast.BoolOp, ast.And, ast.Or, ast.IfExp,
    ast.Compare, ast.Eq, ast.NotEq, ast.Lt, ast.LtE, ast.Gt, ast.GtE, ast.In, ast.NotIn, ast.Is, ast.IsNot,
    ast.Call, ast.Attribute, ast.Subscript, ast.Slice, ast.ListComp, ast.comprehension,
)
OWN_NAMES = (
    "len", "range", "enumerate", "zip", "min", "max", "sum", "abs", "sorted", "reversed",
    "int", "list", "tuple", "dict", "any", "all", "divmod",
)
WALKED = ("range", "enumerate", "zip", "reversed")
METHODS = ("append", "extend", "copy", "count", "get", "index", "insert", "pop", "reverse")
NAMES_OUT = tuple(dir(builtins)) + (
    "register", "mro", "elements", "version_info", "with_traceback", "add_note", "attrgetter", "builtins",
    "gc", "importlib", "methodcaller", "os", "sys",
)
CHANGES = ("append", "extend", "insert", "pop", "reverse")
WORDS_OUT = re.compile(
    r"\b(type|typing|typing_extensions|enum|Enum|IntEnum|StrEnum|Flag|IntFlag|Generic|Protocol|ABC|ABCMeta"
    r"|namedtuple|NamedTuple|TypedDict|TYPE_CHECKING|abstractmethod)\b|dataclass|overload|contextmanager")


def trees():
    for path in sorted(PACKAGE.glob("*.py")):
        text = path.read_text(encoding="utf-8")
        yield path.name, text, ast.parse(text)


class Files(unittest.TestCase):
    def test_plain_files_alone(self):
        names = sorted(path.name for path in PACKAGE.iterdir() if path.name != "__pycache__")
        self.assertEqual(names, ["__init__.py", "paths.py"])

    def test_signs_and_sizes(self):
        for name, text, tree in trees():
            self.assertRegex(text, r"\A[ -~\n]*\n\Z", name)
            rows = text.split("\n")
            self.assertLessEqual(len(rows) - 1, 400, name)
            self.assertLessEqual(max(len(row) for row in rows), 120, name)
            self.assertIsNone(WORDS_OUT.search(text), name)
            self.assertNotIn("\\", text, name)
            self.assertIsNone(re.search(r"[0-9]{901}", text), name)
            for node in ast.walk(tree):
                if isinstance(node, ast.FunctionDef):
                    self.assertLessEqual(node.end_lineno - node.lineno + 1, 40, node.name)


class Language(unittest.TestCase):
    def test_only_these_kinds_of_nodes(self):
        for name, text, tree in trees():
            for node in ast.walk(tree):
                self.assertIsInstance(node, NODES, f"{name}:{getattr(node, 'lineno', 0)}")

    def test_the_top_of_a_file(self):
        for name, text, tree in trees():
            self.assertIsNotNone(ast.get_docstring(tree), name)
            bound = []
            for node in tree.body[1:]:
                if isinstance(node, ast.FunctionDef):
                    bound.append(node.name)
                else:
                    self.assertIsInstance(node, ast.Assign, name)
                    self.assertIsInstance(node.value, ast.Constant, name)
                    bound.append(node.targets[0].id)
            self.assertEqual(len(bound), len(set(bound)), name)

    def test_functions_are_plain(self):
        for name, text, tree in trees():
            for node in ast.walk(tree):
                if isinstance(node, ast.FunctionDef):
                    given = node.args
                    self.assertEqual(
                        [given.vararg, given.kwarg, given.kwonlyargs, given.posonlyargs, given.defaults,
                         node.decorator_list, node.returns, [a for a in given.args if a.annotation]],
                        [None, None, [], [], [], [], None, []], node.name)

    def test_statements(self):
        for name, text, tree in trees():
            for node in ast.walk(tree):
                where = f"{name}:{getattr(node, 'lineno', 0)}"
                if isinstance(node, ast.Assign):
                    self.assertEqual(len(node.targets), 1, where)
                    self.assertNotIsInstance(node.targets[0], (ast.Tuple, ast.List), where)
                if isinstance(node, (ast.For, ast.While)):
                    self.assertEqual(node.orelse, [], where)
                if isinstance(node, ast.ListComp):
                    self.assertEqual(len(node.generators), 1, where)
                    self.assertLessEqual(len(node.generators[0].ifs), 1, where)
                if isinstance(node, ast.Constant) and node.value is not None:
                    self.assertIn(type(node.value), (int, str, bool), where)
                    self.assertFalse(isinstance(node.value, str) and "%" in node.value, where)
                if isinstance(node, ast.Call):
                    self.assertEqual(node.keywords, [], where)
                if isinstance(node, ast.Expr) and not isinstance(node.value, ast.Call):
                    self.assertIsInstance(getattr(node.value, "value", None), str, where)
                if isinstance(node, ast.Compare) and any(isinstance(op, (ast.Is, ast.IsNot)) for op in node.ops):
                    sides = [node.left] + node.comparators
                    self.assertTrue(any(isinstance(k, ast.Constant) and isinstance(k.value, (bool, type(None)))
                                        for k in sides), where)

    def test_names(self):
        for name, text, tree in trees():
            top = [node.name for node in tree.body if isinstance(node, ast.FunctionDef)]
            top += [node.targets[0].id for node in tree.body if isinstance(node, ast.Assign)]
            for node in ast.walk(tree):
                if isinstance(node, ast.FunctionDef):
                    self.check_names_of(node, top)

    def check_names_of(self, function, top):
        given = [a.arg for a in function.args.args]
        stored = [node.id for node in ast.walk(function)
                  if isinstance(node, ast.Name) and isinstance(node.ctx, ast.Store)]
        for word in given + stored + [function.name]:
            self.assertRegex(word, r"\A[A-Za-z][A-Za-z0-9_]*\Z")
            self.assertNotIn(word, OWN_NAMES + NAMES_OUT, function.name)
        for word in given + stored:
            self.assertNotIn(word, top, function.name)
        for node in ast.walk(function):
            if isinstance(node, ast.Name) and isinstance(node.ctx, ast.Load):
                self.assertIn(node.id, given + stored + top + list(OWN_NAMES), function.name)

    def test_own_names_are_called_and_walked_at_once(self):
        for name, text, tree in trees():
            called = [node.func for node in ast.walk(tree) if isinstance(node, ast.Call)]
            walked = [node.iter for node in ast.walk(tree) if isinstance(node, (ast.For, ast.comprehension))]
            for node in ast.walk(tree):
                if isinstance(node, ast.Name) and node.id in OWN_NAMES:
                    self.assertIn(node, called, f"{name}:{node.lineno}")
                if isinstance(node, ast.Call) and isinstance(node.func, ast.Name) and node.func.id in WALKED:
                    self.assertIn(node, walked, f"{name}:{node.lineno}")

    def test_own_functions_are_called_by_those_below_them(self):
        for name, text, tree in trees():
            called = [node.func for node in ast.walk(tree) if isinstance(node, ast.Call)]
            functions = [node for node in tree.body if isinstance(node, ast.FunctionDef)]
            names = [function.name for function in functions]
            for k, function in enumerate(functions):
                for node in ast.walk(function):
                    if isinstance(node, ast.Name) and node.id in names:
                        # So nothing calls itself, by whatever many steps.
                        self.assertIn(node.id, names[:k], f"{name}:{node.lineno}")
                        self.assertIn(node, called, f"{name}:{node.lineno}")

    def test_what_a_loop_walks_is_not_changed_in_it(self):
        for name, text, tree in trees():
            for loop in [node for node in ast.walk(tree) if isinstance(node, ast.For)]:
                walked = [node.id for node in ast.walk(loop.iter) if isinstance(node, ast.Name)]
                for node in ast.walk(loop):
                    if isinstance(node, ast.Attribute) and node.attr in CHANGES:
                        self.assertNotIn(getattr(node.value, "id", None), walked, f"{name}:{node.lineno}")

    def test_methods(self):
        for name, text, tree in trees():
            called = [node.func for node in ast.walk(tree) if isinstance(node, ast.Call)]
            for node in ast.walk(tree):
                if isinstance(node, ast.Attribute):
                    self.assertIn(node.attr, METHODS, f"{name}:{node.lineno}")
                    self.assertIn(node, called, f"{name}:{node.lineno}")

    def test_nothing_that_is_handed_in_is_changed(self):
        for name, text, tree in trees():
            for function in [node for node in ast.walk(tree) if isinstance(node, ast.FunctionDef)]:
                given = [a.arg for a in function.args.args]
                for node in ast.walk(function):
                    where = f"{name}:{getattr(node, 'lineno', 0)}"
                    if isinstance(node, ast.Subscript):
                        self.assertIsInstance(node.ctx, ast.Load, where)
                    if isinstance(node, ast.Attribute) and isinstance(node.value, ast.Name):
                        self.assertNotIn(node.value.id, given, where)


if __name__ == "__main__":
    unittest.main()
