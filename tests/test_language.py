"""The form of the package's files: what of LANGUAGE.md can be seen in their trees, rule by rule."""

import ast
import builtins
import pathlib
import re
import unittest

PACKAGE = pathlib.Path(__file__).resolve().parent.parent / "stateheirs"
BUILT_IN = """len range enumerate zip min max sum abs sorted reversed int str bool list tuple dict set frozenset
    isinstance ord repr any all divmod Exception ValueError TypeError KeyError IndexError LookupError
    ZeroDivisionError ArithmeticError OverflowError RuntimeError NotImplementedError AttributeError
    StopIteration""".split()
METHODS = """append clear copy count endswith extend find get index insert isalnum isalpha isdigit islower isspace
    isupper items join keys ljust lower lstrip partition pop remove replace reverse rfind rjust rpartition rsplit
    rstrip setdefault split splitlines startswith strip update upper values zfill bit_length""".split()
NOT_USED = """register mro elements open input version_info with_traceback add_note attrgetter breakpoint builtins
    compile copyright credits delattr dir eval exec exit gc getattr globals hasattr help id importlib license locals
    methodcaller os quit setattr super type vars sys""".split()
NOWHERE = re.compile(r"\b(type|typing|typing_extensions|enum|Enum|IntEnum|StrEnum|Flag|IntFlag|Generic|Protocol|ABC|"
                     r"ABCMeta|namedtuple|NamedTuple|TypedDict|TYPE_CHECKING|abstractmethod)\b|"
                     r"dataclass|overload|contextmanager")
STATEMENTS = (ast.Assign, ast.AugAssign, ast.If, ast.While, ast.For, ast.Return, ast.Break, ast.Continue, ast.Pass,
              ast.Raise, ast.Try, ast.Expr, ast.FunctionDef, ast.ClassDef, ast.ImportFrom)
NOT_WRITTEN = (ast.SetComp, ast.DictComp, ast.GeneratorExp, ast.NamedExpr, ast.Starred, ast.Div, ast.MatMult,
               ast.Yield, ast.YieldFrom, ast.Await)
TOP = (ast.Assign, ast.Expr, ast.FunctionDef, ast.ClassDef, ast.ImportFrom)
SPECIAL = ("__init__", "__eq__", "__repr__", "__str__", "__len__")


def files():
    return sorted(path for path in PACKAGE.rglob("*") if path.is_file() and "__pycache__" not in path.parts)


def trees():
    return [(path.name, ast.parse(path.read_text("ascii"))) for path in files()]


def nodes(kind):
    return [(name, node) for name, tree in trees() for node in ast.walk(tree) if isinstance(node, kind)]


def bound_names(node):
    if isinstance(node, (ast.FunctionDef, ast.ClassDef)):
        return [node.name]
    if isinstance(node, ast.arg):
        return [node.arg]
    if isinstance(node, ast.Name) and isinstance(node.ctx, ast.Store):
        return [node.id]
    return []


class LanguageTest(unittest.TestCase):
    def test_files(self):
        self.assertIn(PACKAGE / "states.py", files())
        for path in files():
            self.assertRegex(path.name, r"^(__init__|[a-z][a-z0-9_]*)\.py$")
            self.assertRegex(path.read_bytes(), rb"\A[ -~\n]*\Z", path)
            self.assertIsNone(NOWHERE.search(path.read_text("ascii")), path)

    def test_size(self):
        for path in files():
            lines = path.read_text("ascii").split("\n")
            self.assertLessEqual(len(lines), 400, path)
            self.assertLessEqual(max(len(line) for line in lines), 120, path)
        for name, node in nodes(ast.FunctionDef):
            self.assertLessEqual(node.end_lineno - node.lineno + 1, 40, (name, node.name))

    def test_top(self):
        for name, tree in trees():
            names = []
            for node in tree.body:
                self.assertIsInstance(node, TOP, (name, node.lineno))
                names += [one for target in getattr(node, "targets", [node]) for one in bound_names(target)]
                if isinstance(node, ast.Expr):
                    self.assertIsInstance(node.value, ast.Constant)
            self.assertEqual(len(names), len(set(names)), name)

    def test_imports(self):
        for name, node in nodes(ast.ImportFrom):
            self.assertEqual(node.level, 0, name)
            self.assertTrue(node.module.startswith("stateheirs."), name)
            self.assertTrue((PACKAGE / (node.module.split(".")[1] + ".py")).is_file(), name)
            self.assertTrue(all(one.asname is None and one.name != "*" for one in node.names), name)

    def test_no_files_draw_from_one_another(self):
        drawn = {name[:-3]: {node.module.split(".")[1] for node in ast.walk(tree) if isinstance(node, ast.ImportFrom)}
                 for name, tree in trees()}
        for step in drawn:
            drawn = {name: some.union(*(drawn[one] for one in some)) for name, some in drawn.items()}
        for name, some in drawn.items():
            self.assertNotIn(name, some)

    def test_imports_are_read_and_come_from_where_they_are_made(self):
        made = {name[:-3]: {one for node in tree.body for part in getattr(node, "targets", [node])
                            for one in bound_names(part)} for name, tree in trees()}
        for name, tree in trees():
            read = {node.id for node in ast.walk(tree) if isinstance(node, ast.Name)}
            for node in tree.body:
                if isinstance(node, ast.ImportFrom):
                    some = {one.name for one in node.names}
                    self.assertLessEqual(some, made[node.module.split(".")[1]], name)
                    self.assertLessEqual(some, read, name)

    def test_locals_are_not_called_like_classes_or_imports(self):
        for name, tree in trees():
            taken = {node.name for node in tree.body if isinstance(node, ast.ClassDef)}
            taken |= {one.name for node in tree.body if isinstance(node, ast.ImportFrom) for one in node.names}
            inner = {one for node in ast.walk(tree) if isinstance(node, (ast.arg, ast.Name))
                     for one in bound_names(node)}
            self.assertEqual(inner & taken, set(), name)

    def test_no_name_is_a_method_and_a_value(self):
        methods = {part.name for name, node in nodes(ast.ClassDef) for part in node.body
                   if isinstance(part, ast.FunctionDef)}
        kept = {node.attr for name, node in nodes(ast.Attribute) if isinstance(node.ctx, ast.Store)}
        self.assertEqual(methods & kept, set())
        self.assertEqual((methods | kept) & set(METHODS), set())

    def test_statements_and_values(self):
        for name, node in nodes(ast.stmt):
            self.assertIsInstance(node, STATEMENTS, (name, node.lineno))
            self.assertFalse(isinstance(node, (ast.For, ast.While)) and node.orelse, (name, node.lineno))
            self.assertFalse(isinstance(node, ast.Assign) and len(node.targets) > 1, (name, node.lineno))
            self.assertFalse(isinstance(node, ast.Try) and node.finalbody, (name, node.lineno))
        self.assertEqual(nodes(NOT_WRITTEN), [])
        for name, node in nodes(ast.Constant):
            self.assertIn(type(node.value).__name__, ("int", "str", "bool", "NoneType"), (name, node.lineno))
        for name, node in nodes(ast.BinOp):
            if isinstance(node.op, ast.Pow):
                self.assertIsInstance(node.right, ast.Constant, (name, node.lineno))

    def test_functions_and_classes(self):
        for name, node in nodes((ast.FunctionDef, ast.ClassDef)):
            self.assertEqual(node.decorator_list, [], (name, node.name))
        for name, node in nodes(ast.arguments):
            self.assertEqual((node.vararg, node.kwarg, node.kwonlyargs, node.posonlyargs), (None, None, [], []), name)
        for name, node in nodes(ast.ClassDef):
            for part in node.body:
                self.assertIsInstance(part, (ast.FunctionDef, ast.Expr), (name, node.name))

    def test_names(self):
        for name, tree in trees():
            kept = {one for node in ast.walk(tree) for one in bound_names(node)}
            kept |= {one.name for node in ast.walk(tree) if isinstance(node, ast.ImportFrom) for one in node.names}
            for one in kept:
                self.assertTrue(not one.startswith("_") or one in SPECIAL, (name, one))
                self.assertFalse(one in vars(builtins) or one in NOT_USED, (name, one))
            read = {node.id for node in ast.walk(tree) if isinstance(node, ast.Name)}
            self.assertLessEqual(read - kept, set(BUILT_IN), name)

    def test_methods(self):
        own = {node.name for name, node in nodes(ast.FunctionDef)}
        for name, node in nodes(ast.Call):
            if isinstance(node.func, ast.Attribute):
                self.assertIn(node.func.attr, own | set(METHODS), (name, node.lineno))

    def test_is_stands_beside_none_alone(self):
        for name, node in nodes(ast.Compare):
            for sign, value in zip(node.ops, node.comparators):
                if isinstance(sign, (ast.Is, ast.IsNot)):
                    self.assertIn(getattr(value, "value", 0), (None, True, False), (name, node.lineno))
