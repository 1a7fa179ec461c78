"""That the package's files keep to the part of Python they are to be written in, as far as a test can see."""

import ast
import builtins
import re
import unittest
from pathlib import Path

PACKAGE = Path(__file__).resolve().parent.parent / "tubepicture"
STATEMENTS = (ast.Assign, ast.AugAssign, ast.If, ast.While, ast.For, ast.Return, ast.Break, ast.Continue, ast.Pass,
              ast.Raise, ast.Try, ast.Expr, ast.FunctionDef, ast.ClassDef, ast.ImportFrom)
EXPRESSIONS = (ast.Constant, ast.Name, ast.List, ast.Tuple, ast.Dict, ast.BinOp, ast.UnaryOp, ast.BoolOp, ast.Compare,
               ast.IfExp, ast.Call, ast.Attribute, ast.Subscript, ast.Slice, ast.ListComp, ast.JoinedStr,
               ast.FormattedValue, ast.Lambda)
OWN_NAMES = set("len range enumerate zip min max sum abs sorted reversed int str bool list tuple dict set frozenset "
                "isinstance ord repr any all divmod Exception ValueError TypeError KeyError IndexError LookupError "
                "ZeroDivisionError ArithmeticError OverflowError RuntimeError NotImplementedError AttributeError "
                "StopIteration".split())
METHODS = set("append clear copy count endswith extend find get index insert isalnum isalpha isdigit islower isspace "
              "isupper items join keys ljust lower lstrip partition pop remove replace reverse rfind rjust "
              "rpartition rsplit rstrip setdefault split splitlines startswith strip update upper values zfill "
              "bit_length".split())
WORDS = re.compile(r"\b(type|typing|typing_extensions|enum|Enum|IntEnum|StrEnum|Flag|IntFlag|Generic|Protocol|ABC"
                   r"|ABCMeta|namedtuple|NamedTuple|TypedDict|TYPE_CHECKING|abstractmethod|register|mro|elements|open"
                   r"|input|eval|exec|getattr|setattr|globals|locals|vars|super)\b|dataclass|overload|contextmanager")


class Language(unittest.TestCase):
    def setUp(self):
        self.files = sorted(path for path in PACKAGE.rglob("*") if "__pycache__" not in path.parts)
        self.trees = {path.name: ast.parse(path.read_text()) for path in self.files}

    def nodes(self, *kinds):
        for name, tree in self.trees.items():
            for node in ast.walk(tree):
                if isinstance(node, kinds):
                    yield name, node

    def test_files(self):
        self.assertIn("__init__.py", self.trees)
        for path in self.files:
            self.assertRegex(path.name, r"^([a-z][a-z0-9_]*|__init__)\.py$")
            self.assertNotIn(path.stem, vars(builtins))
            source = path.read_text()
            self.assertRegex(source, r"\A[ -~\n]*\Z", path)
            self.assertIsNone(WORDS.search(source), path)
            lines = source.split("\n")
            self.assertLessEqual(len(lines), 400, path)
            self.assertLessEqual(max(len(line) for line in lines), 120, path)

    def test_statements_and_expressions(self):
        for name, node in self.nodes(ast.stmt):
            self.assertIsInstance(node, STATEMENTS, (name, node.lineno))
        for name, node in self.nodes(ast.expr):
            self.assertIsInstance(node, EXPRESSIONS, (name, node.lineno))
        for name, node in self.nodes(ast.Assign):
            self.assertEqual(len(node.targets), 1, (name, node.lineno))
        for name, node in self.nodes(ast.Constant):
            self.assertIn(type(node.value), (int, str, bool, type(None)), (name, node.lineno))
        for name, node in self.nodes(ast.Div, ast.MatMult):
            self.fail(name)
        for name, node in self.nodes(ast.ListComp):
            self.assertEqual(len(node.generators), 1, (name, node.lineno))
            self.assertLessEqual(len(node.generators[0].ifs), 1, (name, node.lineno))
        for name, node in self.nodes(ast.For, ast.While):
            self.assertEqual(node.orelse, [], (name, node.lineno))

    def test_functions(self):
        for name, node in self.nodes(ast.FunctionDef):
            self.assertLessEqual(node.end_lineno - node.lineno + 1, 40, (name, node.name))
            self.assertEqual(node.decorator_list, [], (name, node.name))
            told = node.args
            self.assertEqual((told.vararg, told.kwarg, told.kwonlyargs, told.posonlyargs), (None, None, [], []))

    def test_imports(self):
        for name, node in self.nodes(ast.ImportFrom):
            self.assertRegex(node.module, r"^tubepicture\.[a-z_]+$", name)
            defined = {getattr(one, "name", None) for one in self.trees[node.module.split(".")[1] + ".py"].body}
            defined |= {one.targets[0].id for one in self.trees[node.module.split(".")[1] + ".py"].body
                        if isinstance(one, ast.Assign)}
            for alias in node.names:
                self.assertIn(alias.name, defined, name)

    def test_names(self):
        for name, node in self.nodes(ast.Name, ast.arg):
            told = node.id if isinstance(node, ast.Name) else node.arg
            self.assertRegex(told, r"^[A-Za-z][A-Za-z0-9_]*$", name)
            if told in vars(builtins):
                self.assertIn(told, OWN_NAMES, (name, node.lineno))
                self.assertIsInstance(getattr(node, "ctx", None), ast.Load, (name, node.lineno))
        for name, node in self.nodes(ast.Call):
            if isinstance(node.func, ast.Attribute):
                self.assertIn(node.func.attr, METHODS, (name, node.lineno))

    def test_each_name_is_bound_once_at_the_top(self):
        for name, tree in self.trees.items():
            bound = [one.targets[0].id for one in tree.body if isinstance(one, ast.Assign)]
            bound += [one.name for one in tree.body if isinstance(one, (ast.FunctionDef, ast.ClassDef))]
            bound += [alias.name for one in tree.body if isinstance(one, ast.ImportFrom) for alias in one.names]
            self.assertEqual(len(bound), len(set(bound)), name)
            for node in ast.walk(tree):
                if isinstance(node, ast.FunctionDef):
                    local = {one.id for one in ast.walk(node)
                             if isinstance(one, ast.Name) and isinstance(one.ctx, ast.Store)}
                    local |= {one.arg for one in node.args.args}
                    self.assertEqual(local & set(bound), set(), (name, node.name))


if __name__ == "__main__":
    unittest.main()
