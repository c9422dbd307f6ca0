"""The form of the package's files: what of the rules of the language a walk through them can see."""

import ast
import builtins
import re
import unittest
from pathlib import Path

import roomtwice

FOLDER = Path(roomtwice.__file__).parent

OWN_NAMES = set(
    "len range enumerate zip min max sum abs sorted reversed int str bool list tuple dict set frozenset isinstance"
    " ord repr any all divmod Exception ValueError TypeError KeyError IndexError LookupError ZeroDivisionError"
    " ArithmeticError OverflowError RuntimeError NotImplementedError AttributeError StopIteration".split()
)
OWN_METHODS = set(
    "append clear copy count endswith extend find get index insert isalnum isalpha isdigit islower isspace isupper"
    " items join keys ljust lower lstrip partition pop remove replace reverse rfind rjust rpartition rsplit rstrip"
    " setdefault split splitlines startswith strip update upper values zfill bit_length".split()
)
UNUSED_NAMES = set(
    "register mro elements open input version_info with_traceback add_note attrgetter breakpoint builtins compile"
    " copyright credits delattr dir eval exec exit gc getattr globals hasattr help id importlib license locals"
    " methodcaller os quit setattr super type vars sys format format_map".split()
)
UNSAID = re.compile(
    r"\b(type|typing|typing_extensions|enum|Enum|IntEnum|StrEnum|Flag|IntFlag|Generic|Protocol|ABC|ABCMeta|namedtuple"
    r"|NamedTuple|TypedDict|TYPE_CHECKING|abstractmethod)\b|dataclass|overload|contextmanager"
)
DUNDERS = {"__init__", "__eq__", "__repr__", "__str__", "__len__"}
NODES = (
    ast.Module, ast.FunctionDef, ast.ClassDef, ast.arguments, ast.arg, ast.Lambda, ast.ImportFrom, ast.alias,
    ast.Assign, ast.AugAssign, ast.If, ast.While, ast.For, ast.Return, ast.Break, ast.Continue, ast.Pass, ast.Raise,
    ast.Try, ast.ExceptHandler, ast.Expr, ast.Constant, ast.List, ast.Tuple, ast.Dict, ast.BinOp, ast.UnaryOp,
    ast.BoolOp, ast.Compare, ast.IfExp, ast.Call, ast.keyword, ast.Attribute, ast.Subscript, ast.Slice, ast.ListComp,
    ast.comprehension, ast.JoinedStr, ast.FormattedValue, ast.Name, ast.expr_context, ast.operator, ast.unaryop,
    ast.boolop, ast.cmpop,
)
TOP = (ast.Expr, ast.ImportFrom, ast.FunctionDef, ast.ClassDef, ast.Assign)


def files():
    return [path for path in sorted(FOLDER.rglob("*")) if "__pycache__" not in path.parts]


def trees():
    return [(path.name, ast.parse(path.read_text("utf-8"))) for path in files() if path.suffix == ".py"]


def nodes(*kinds):
    return [(name, node) for name, tree in trees() for node in ast.walk(tree) if isinstance(node, kinds)]


def bound_in(tree):
    """The names that a file binds anywhere."""
    found = set()
    for node in ast.walk(tree):
        if isinstance(node, (ast.FunctionDef, ast.ClassDef)):
            found.add(node.name)
        elif isinstance(node, ast.arg):
            found.add(node.arg)
        elif isinstance(node, ast.alias):
            found.add(node.asname or node.name)
        elif isinstance(node, ast.Name) and isinstance(node.ctx, ast.Store):
            found.add(node.id)
    return found


class Form(unittest.TestCase):
    def test_files(self):
        self.assertIn("pictures.py", [path.name for path in files()])
        for path in files():
            self.assertTrue(path.is_file() and re.fullmatch(r"(__init__|[a-z][a-z0-9_]*)\.py", path.name), path)
            self.assertFalse(path.stem in dir(builtins), path)

    def test_signs_and_sizes(self):
        for path in files():
            text = path.read_bytes()
            self.assertLessEqual(set(text), set(range(32, 127)) | {10}, path)
            rows = text.decode("ascii").split("\n")
            self.assertLessEqual(len(rows), 401, path)
            self.assertLessEqual(max(len(row) for row in rows), 120, path)
            self.assertIsNone(UNSAID.search(text.decode("ascii")), path)
        for name, node in nodes(ast.FunctionDef):
            self.assertLessEqual(node.end_lineno - node.lineno + 1, 40, (name, node.name))

    def test_nothing_but_the_plain_parts(self):
        for name, node in nodes(ast.AST):
            self.assertIsInstance(node, NODES, name)
            if isinstance(node, ast.Constant):
                self.assertIn(type(node.value), (int, str, bool, type(None)), (name, node.lineno))
            if isinstance(node, (ast.Div, ast.MatMult)):
                self.fail(name)
            if isinstance(node, (ast.For, ast.While)):
                self.assertEqual(node.orelse, [], (name, node.lineno))
            if isinstance(node, ast.Assign):
                self.assertEqual(len(node.targets), 1, (name, node.lineno))
            if isinstance(node, ast.ListComp):
                self.assertEqual(len(node.generators), 1, (name, node.lineno))
                self.assertLessEqual(len(node.generators[0].ifs), 1, (name, node.lineno))
            if isinstance(node, ast.BinOp) and isinstance(node.op, ast.Pow):
                self.assertIsInstance(node.right, ast.Constant, (name, node.lineno))

    def test_defs_and_classes(self):
        for name, node in nodes(ast.FunctionDef):
            asked = node.args
            self.assertEqual((node.decorator_list, node.returns), ([], None), (name, node.name))
            self.assertEqual((asked.vararg, asked.kwarg, asked.kwonlyargs, asked.posonlyargs), (None, None, [], []))
            self.assertEqual([arg.annotation for arg in asked.args if arg.annotation], [], (name, node.name))
        for name, node in nodes(ast.ClassDef):
            self.assertEqual((node.decorator_list, node.keywords), ([], []), (name, node.name))
            for part in node.body:
                remark = isinstance(part, ast.Expr) and isinstance(part.value, ast.Constant)
                self.assertTrue(remark or isinstance(part, ast.FunctionDef), (name, part.lineno))

    def test_the_top_of_a_file(self):
        for name, tree in trees():
            bound = []
            for part in tree.body:
                self.assertIsInstance(part, TOP, (name, part.lineno))
                if isinstance(part, ast.Expr):
                    self.assertIsInstance(part.value, ast.Constant, (name, part.lineno))
                elif isinstance(part, ast.ImportFrom):
                    self.assertEqual(part.level, 0, (name, part.lineno))
                    self.assertTrue(part.module.startswith("roomtwice."), (name, part.lineno))
                    bound += [alias.name for alias in part.names]
                elif isinstance(part, ast.Assign):
                    bound.append(part.targets[0].id)
                else:
                    bound.append(part.name)
            self.assertEqual(len(bound), len(set(bound)), name)

    def test_names(self):
        for name, tree in trees():
            bound = bound_in(tree)
            for word in bound - DUNDERS:
                self.assertRegex(word, r"^[A-Za-z][A-Za-z0-9_]*$", name)
                self.assertFalse(hasattr(builtins, word), (name, word))
            used = {node.id for node in ast.walk(tree) if isinstance(node, ast.Name)}
            self.assertLessEqual(used - bound, OWN_NAMES, name)
            self.assertEqual((used | bound) & UNUSED_NAMES, set(), name)

    def test_no_local_is_called_like_an_import_or_a_class(self):
        for name, tree in trees():
            taken = {alias.name for node in ast.walk(tree) if isinstance(node, ast.ImportFrom) for alias in node.names}
            taken |= {node.name for node in ast.walk(tree) if isinstance(node, ast.ClassDef)}
            words = {node.arg for node in ast.walk(tree) if isinstance(node, ast.arg)}
            words |= {n.id for n in ast.walk(tree) if isinstance(n, ast.Name) and isinstance(n.ctx, ast.Store)}
            self.assertEqual(taken & words, set(), name)

    def test_methods_and_values(self):
        methods = set()
        for name, node in nodes(ast.ClassDef):
            own = [part.name for part in node.body if isinstance(part, ast.FunctionDef)]
            self.assertEqual(len(own), len(set(own)), (name, node.name))
            methods |= set(own)
        values = {node.attr for name, node in nodes(ast.Attribute) if isinstance(node.ctx, ast.Store)}
        self.assertEqual(methods & values, set())
        for kind in (str, int, list, dict, set, bytes):
            self.assertEqual((methods - DUNDERS | values) & set(dir(kind)), set())
        for name, node in nodes(ast.Attribute):
            self.assertIn(node.attr, OWN_METHODS | methods | values, (name, node.lineno))

    def test_no_files_that_draw_from_one_another(self):
        drawn = {}
        for name, tree in trees():
            drawn["roomtwice." + name[:-3]] = {part.module for part in tree.body if isinstance(part, ast.ImportFrom)}
        while drawn:
            free = [name for name in drawn if not drawn[name] & set(drawn)]
            self.assertNotEqual(free, [], drawn)
            for name in free:
                del drawn[name]


if __name__ == "__main__":
    unittest.main()
