"""The package keeps to the part of Python it is written in, as far as a look at its files tells."""

import ast
import builtins
import pathlib
import unittest

PACKAGE = pathlib.Path(__file__).resolve().parent.parent / "trendcells"

STATEMENTS = (
    ast.FunctionDef, ast.ClassDef, ast.Assign, ast.AugAssign, ast.If, ast.While, ast.For, ast.Return,
    ast.Break, ast.Continue, ast.Pass, ast.Raise, ast.Try, ast.Expr, ast.ImportFrom,
)
EXPRESSIONS = (
    ast.Constant, ast.List, ast.Tuple, ast.Dict, ast.BinOp, ast.UnaryOp, ast.BoolOp, ast.Compare,
    ast.IfExp, ast.Call, ast.Attribute, ast.Subscript, ast.Slice, ast.Name, ast.ListComp,
    ast.JoinedStr, ast.FormattedValue, ast.Lambda,
)
OWN_NAMES = set(
    "len range enumerate zip min max sum abs sorted reversed int str bool list tuple dict set frozenset "
    "isinstance ord repr any all divmod Exception ValueError TypeError KeyError IndexError LookupError "
    "ZeroDivisionError ArithmeticError OverflowError RuntimeError NotImplementedError AttributeError "
    "StopIteration".split())
METHODS = set(
    "append clear copy count endswith extend find get index insert isalnum isalpha isdigit islower isspace "
    "isupper items join keys ljust lower lstrip partition pop remove replace reverse rfind rjust rpartition "
    "rsplit rstrip setdefault split splitlines startswith strip update upper values zfill bit_length".split())
WORDS = (
    r"\b(type|typing|typing_extensions|enum|Enum|IntEnum|StrEnum|Flag|IntFlag|Generic|Protocol|ABC|ABCMeta|"
    r"namedtuple|NamedTuple|TypedDict|TYPE_CHECKING|abstractmethod)\b|dataclass|overload|contextmanager")


def trees():
    return [(path, ast.parse(path.read_text("utf-8"))) for path in sorted(PACKAGE.glob("*.py"))]


def nodes(*kinds):
    return [(path.name, node) for path, tree in trees() for node in ast.walk(tree) if isinstance(node, kinds)]


def self_values(tree):
    return {
        node.attr for node in ast.walk(tree)
        if isinstance(node, ast.Attribute) and isinstance(node.ctx, ast.Store)}


def methods_of(tree):
    return {
        part.name for node in ast.walk(tree) if isinstance(node, ast.ClassDef)
        for part in node.body if isinstance(part, ast.FunctionDef)}


class Language(unittest.TestCase):
    def test_files(self):
        names = [path.name for path in PACKAGE.iterdir() if path.name != "__pycache__"]
        self.assertIn("__init__.py", names)
        self.assertIn("station.py", names)
        for name in names:
            self.assertRegex(name, r"^([a-z][a-z0-9_]*|__init__)\.py$")

    def test_sizes_and_signs(self):
        for path, tree in trees():
            text = path.read_text("utf-8")
            self.assertRegex(text, r"\A[ -~\n]*\Z", path.name)
            self.assertNotRegex(text, WORDS, path.name)
            lines = text.split("\n")
            self.assertLessEqual(len(lines), 400, path.name)
            self.assertLessEqual(max(len(line) for line in lines), 120, path.name)
        for name, node in nodes(ast.FunctionDef):
            self.assertLessEqual(node.end_lineno - node.lineno + 1, 40, (name, node.name))

    def test_statements_and_expressions(self):
        for name, node in nodes(ast.stmt):
            self.assertIsInstance(node, STATEMENTS, (name, node.lineno))
            self.assertFalse(isinstance(node, (ast.For, ast.While)) and node.orelse, (name, node.lineno))
            self.assertFalse(isinstance(node, ast.Try) and node.finalbody, (name, node.lineno))
        for name, node in nodes(ast.expr):
            self.assertIsInstance(node, EXPRESSIONS, (name, node.lineno))

    def test_values_and_operators(self):
        for name, node in nodes(ast.Constant):
            self.assertIn(type(node.value), (int, str, bool, type(None)), (name, node.lineno))
        for name, node in nodes(ast.BinOp, ast.AugAssign):
            self.assertNotIsInstance(node.op, (ast.Div, ast.MatMult, ast.Pow), (name, node.lineno))
        for name, node in nodes(ast.Assign):
            self.assertEqual(len(node.targets), 1, (name, node.lineno))
            self.assertNotIsInstance(node.targets[0], (ast.Tuple, ast.List), (name, node.lineno))
        for name, node in nodes(ast.ListComp):
            self.assertEqual(len(node.generators), 1, (name, node.lineno))
            self.assertLessEqual(len(node.generators[0].ifs), 1, (name, node.lineno))

    def test_names(self):
        for name, node in nodes(ast.Name, ast.arg):
            called = node.id if isinstance(node, ast.Name) else node.arg
            self.assertFalse(called.startswith("_"), (name, node.lineno, called))
            if hasattr(builtins, called):
                self.assertIn(called, OWN_NAMES, (name, node.lineno))
                self.assertIsInstance(getattr(node, "ctx", None), ast.Load, (name, node.lineno, called))

    def test_functions_and_classes(self):
        for name, node in nodes(ast.FunctionDef):
            self.assertFalse(node.decorator_list, (name, node.name))
            plain = not (node.args.vararg or node.args.kwarg or node.args.kwonlyargs or node.args.posonlyargs)
            self.assertTrue(plain, (name, node.name))
        for name, node in nodes(ast.ClassDef):
            self.assertFalse(node.decorator_list or node.keywords, (name, node.name))
            self.assertLessEqual(len(node.bases), 1, (name, node.name))

    def test_methods(self):
        own = set().union(*[methods_of(tree) for path, tree in trees()])
        kept = set().union(*[self_values(tree) for path, tree in trees()])
        self.assertEqual(own & kept, set())
        for name, node in nodes(ast.Call):
            if isinstance(node.func, ast.Attribute):
                self.assertIn(node.func.attr, own | METHODS, (name, node.lineno))

    def test_imports(self):
        files = {path.stem: tree for path, tree in trees()}
        for name, node in nodes(ast.ImportFrom):
            self.assertEqual(node.level, 0, name)
            self.assertRegex(node.module, r"^trendcells\.[a-z_]+$", name)
            tops = files[node.module.split(".")[1]].body
            defined = [top.name for top in tops if isinstance(top, (ast.FunctionDef, ast.ClassDef))]
            defined += [top.targets[0].id for top in tops if isinstance(top, ast.Assign)]
            for alias in node.names:
                self.assertIn(alias.name, defined, name)

    def test_tops(self):
        for path, tree in trees():
            self.assertIsNotNone(ast.get_docstring(tree), path.name)
            bound = []
            for top in tree.body[1:]:
                self.assertIsInstance(top, (ast.ImportFrom, ast.FunctionDef, ast.ClassDef, ast.Assign), path.name)
                if isinstance(top, ast.Assign):
                    ast.literal_eval(top.value)
                    bound.append(top.targets[0].id)
                elif isinstance(top, ast.ImportFrom):
                    bound.extend(alias.name for alias in top.names)
                else:
                    bound.append(top.name)
            self.assertEqual(len(bound), len(set(bound)), path.name)
            for node in ast.walk(tree):
                local = node.arg if isinstance(node, ast.arg) else getattr(node, "id", None)
                if isinstance(node, ast.arg) or isinstance(getattr(node, "ctx", None), ast.Store):
                    self.assertFalse(local in bound and not self.at_top(tree, node), (path.name, local))

    def at_top(self, tree, node):
        return any(isinstance(top, ast.Assign) and top.targets[0] is node for top in tree.body)


if __name__ == "__main__":
    unittest.main()
