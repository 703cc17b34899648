"""The package keeps to its small part of Python, as far as that can be read off its files."""

import ast
import builtins
import re
import unittest
from pathlib import Path

PACKAGE = Path(__file__).resolve().parent.parent / "spreadmeans"
FILES = sorted(path for path in PACKAGE.rglob("*") if "__pycache__" not in path.parts)

STATEMENTS = (ast.Assign, ast.AugAssign, ast.If, ast.While, ast.For, ast.Return, ast.Break, ast.Continue, ast.Pass,
              ast.Raise, ast.Try, ast.Expr, ast.FunctionDef, ast.ClassDef, ast.ImportFrom)
NOT_USED = (ast.Div, ast.MatMult, ast.Set, ast.SetComp, ast.DictComp, ast.GeneratorExp, ast.NamedExpr, ast.Starred,
            ast.Yield, ast.YieldFrom, ast.Await)
NAMES = set("""len range enumerate zip min max sum abs sorted reversed int str bool list tuple dict set frozenset
    isinstance ord repr any all divmod Exception ValueError TypeError KeyError IndexError LookupError
    ZeroDivisionError ArithmeticError OverflowError RuntimeError NotImplementedError StopIteration""".split())
METHODS = set("""append clear copy count endswith extend find get index insert isalnum isalpha isdigit islower isspace
    isupper items join keys ljust lower lstrip partition pop remove replace reverse rfind rjust rpartition rsplit
    rstrip setdefault split splitlines startswith strip update upper values zfill bit_length""".split())
WORDS = set("""type typing typing_extensions enum Enum IntEnum StrEnum Flag IntFlag Generic Protocol ABC ABCMeta
    namedtuple NamedTuple TypedDict TYPE_CHECKING abstractmethod""".split())


def bound_in(node):
    """The names that a def binds: its parameters, and what it assigns or walks with."""
    names = [argument.arg for argument in node.args.args]
    return names + [part.id for part in ast.walk(node) if isinstance(part, ast.Name) and isinstance(part.ctx, ast.Store)]


def bound_at_top(tree):
    names = []
    for node in tree.body:
        if isinstance(node, (ast.FunctionDef, ast.ClassDef)):
            names.append(node.name)
        elif isinstance(node, ast.Assign):
            names.extend(target.id for target in node.targets)
        elif isinstance(node, ast.ImportFrom):
            names.extend(alias.name for alias in node.names)
    return names


class Form(unittest.TestCase):
    def setUp(self):
        self.texts = {path.name: path.read_text("utf-8") for path in FILES}
        self.trees = {name: ast.parse(text) for name, text in self.texts.items()}

    def every_node(self):
        for name, tree in self.trees.items():
            for node in ast.walk(tree):
                yield f"{name}:{getattr(node, 'lineno', 0)}", node

    def every_def(self):
        return [(where, node) for where, node in self.every_node() if isinstance(node, ast.FunctionDef)]

    def test_files(self):
        self.assertIn("__init__.py", self.texts)
        self.assertIn("powers.py", self.texts)
        for path in FILES:
            self.assertRegex(path.name, r"^(__init__|__main__|[a-z][a-z0-9_]*)\.py$")
            self.assertFalse(path.stem != "__init__" and hasattr(builtins, path.stem), path)
            self.assertNotIn(path.stem, ("test", "tests", "testing", "site", "conftest"))

    def test_signs_and_sizes(self):
        for name, text in self.texts.items():
            self.assertRegex(text, r"\A[ -~\n]*\Z", name)
            self.assertLessEqual(len(text.splitlines()), 400, name)
            self.assertLessEqual(max(map(len, text.splitlines())), 120, name)
        for where, node in self.every_def():
            self.assertLessEqual(node.end_lineno - node.lineno + 1, 40, where)

    def test_words(self):
        for name, text in self.texts.items():
            self.assertEqual(WORDS & set(re.findall(r"\w+", text)), set(), name)
            self.assertNotRegex(text, r"dataclass|overload|contextmanager")

    def test_imports(self):
        drawn = {}
        for name, tree in self.trees.items():
            drawn[name] = []
            for node in ast.walk(tree):
                self.assertNotIsInstance(node, ast.Import, name)
                if isinstance(node, ast.ImportFrom):
                    self.assertIn(node, tree.body)
                    self.assertEqual((node.level, node.module.split(".")[0]), (0, "spreadmeans"))
                    source = node.module.split(".")[1] + ".py"
                    drawn[name].append(source)
                    defined = [part.name for part in self.trees[source].body
                               if isinstance(part, (ast.FunctionDef, ast.ClassDef))]
                    defined += [part.targets[0].id for part in self.trees[source].body if isinstance(part, ast.Assign)]
                    for alias in node.names:
                        self.assertIn(alias.name, defined)
                        self.assertIsNone(alias.asname)
        self.assertEqual(drawn["__init__.py"], [])
        done = []
        while len(done) < len(drawn):
            free = [name for name in drawn if name not in done and set(drawn[name]) <= set(done)]
            self.assertTrue(free, "files draw from one another in a ring")
            done.extend(free)

    def test_top(self):
        for name, tree in self.trees.items():
            top = bound_at_top(tree)
            self.assertEqual(len(top), len(set(top)), name)
            for at, node in enumerate(tree.body):
                self.assertIsInstance(node, (ast.Expr, ast.ImportFrom, ast.FunctionDef, ast.ClassDef, ast.Assign))
                if isinstance(node, ast.Expr):
                    self.assertEqual((at, type(node.value)), (0, ast.Constant))
                if isinstance(node, ast.Assign):
                    for part in ast.walk(node.value):
                        self.assertNotIsInstance(part, (ast.Call, ast.BinOp, ast.Lambda, ast.ListComp), name)

    def test_statements_and_expressions(self):
        for where, node in self.every_node():
            if isinstance(node, ast.stmt):
                self.assertIsInstance(node, STATEMENTS, where)
            self.assertNotIsInstance(node, NOT_USED, where)
            if isinstance(node, (ast.For, ast.While)):
                self.assertEqual(node.orelse, [], where)
            if isinstance(node, ast.Assign):
                self.assertEqual(len(node.targets), 1, where)
                self.assertNotIsInstance(node.targets[0], (ast.Tuple, ast.List), where)
            if isinstance(node, ast.ListComp):
                self.assertEqual(len(node.generators), 1, where)
                self.assertLessEqual(len(node.generators[0].ifs), 1, where)
            if isinstance(node, ast.Compare) and any(isinstance(sign, (ast.Is, ast.IsNot)) for sign in node.ops):
                self.assertEqual(len(node.ops), 1, where)
                self.assertIn(ast.unparse(node.comparators[0]), ("None", "True", "False"), where)
            if isinstance(node, ast.Constant):
                self.assertIn(type(node.value), (int, str, bool, type(None)), where)
            if isinstance(node, ast.BinOp) and isinstance(node.op, ast.Pow):
                self.assertIsInstance(node.right, ast.Constant, where)
                self.assertIn(node.right.value, range(65), where)

    def test_defs(self):
        for where, node in self.every_def():
            self.assertEqual((node.decorator_list, node.returns), ([], None), where)
            given = node.args
            self.assertEqual((given.posonlyargs, given.kwonlyargs, given.vararg, given.kwarg), ([], [], None, None))
            self.assertEqual([one.annotation for one in given.args if one.annotation], [], where)

    def test_names(self):
        for name, tree in self.trees.items():
            top = bound_at_top(tree)
            for node in ast.walk(tree):
                if isinstance(node, ast.FunctionDef):
                    for bound in bound_in(node):
                        self.assertNotIn(bound, top, name)
                        self.assertFalse(hasattr(builtins, bound), bound)
                        self.assertFalse(bound.startswith("_"), bound)
                if isinstance(node, ast.Name) and hasattr(builtins, node.id):
                    self.assertIn(node.id, NAMES, name)

    def test_classes_and_attributes(self):
        own = []
        for where, node in self.every_node():
            if isinstance(node, ast.ClassDef):
                self.assertEqual((node.decorator_list, node.keywords), ([], []), where)
                self.assertLessEqual(len(node.bases), 1, where)
                for part in node.body:
                    self.assertIsInstance(part, (ast.Expr, ast.FunctionDef), where)
            if isinstance(node, ast.Attribute) and isinstance(node.ctx, ast.Store):
                own.append(node.attr)
        methods = [name for kind in (str, int, list, dict, set, bytes, tuple) for name in vars(kind)]
        self.assertEqual(set(own) & set(methods), set())
        for where, node in self.every_node():
            if isinstance(node, ast.Attribute):
                self.assertIn(node.attr, METHODS | set(own), where)


if __name__ == "__main__":
    unittest.main()
