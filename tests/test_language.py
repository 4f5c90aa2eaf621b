"""The package's own files keep to the rules of LANGUAGE.md that can be seen in their text."""

import ast
import builtins
import pathlib
import re
import unittest

PACKAGE = pathlib.Path(__file__).resolve().parent.parent / "jetblocks"

BUILT_IN = set(
    "len range enumerate zip min max sum abs sorted reversed int str bool list tuple dict set frozenset isinstance "
    "ord repr any all divmod Exception ValueError TypeError KeyError IndexError LookupError ZeroDivisionError "
    "ArithmeticError OverflowError RuntimeError NotImplementedError AttributeError StopIteration".split()
)
METHODS = set(
    "append clear copy count endswith extend find get index insert isalnum isalpha isdigit islower isspace isupper "
    "items join keys ljust lower lstrip partition pop remove replace reverse rfind rjust rpartition rsplit rstrip "
    "setdefault split splitlines startswith strip update upper values zfill bit_length".split()
)
UNUSED = set(
    "register mro elements open input version_info with_traceback add_note attrgetter breakpoint builtins compile "
    "copyright credits delattr dir eval exec exit gc getattr globals hasattr help id importlib license locals "
    "methodcaller os quit setattr super type vars sys".split()
)
WORDS = re.compile(
    r"\b(type|typing|typing_extensions|enum|Enum|IntEnum|StrEnum|Flag|IntFlag|Generic|Protocol|ABC|ABCMeta|namedtuple|"
    r"NamedTuple|TypedDict|TYPE_CHECKING|abstractmethod)\b|dataclass|overload|contextmanager"
)
STATEMENTS = (
    ast.Assign, ast.AugAssign, ast.If, ast.While, ast.For, ast.Return, ast.Break, ast.Continue, ast.Pass, ast.Raise,
    ast.Try, ast.Expr, ast.FunctionDef, ast.ClassDef, ast.ImportFrom,
)
EXPRESSIONS = (
    ast.BoolOp, ast.BinOp, ast.UnaryOp, ast.Lambda, ast.IfExp, ast.Dict, ast.Set, ast.ListComp, ast.Compare, ast.Call,
    ast.FormattedValue, ast.JoinedStr, ast.Constant, ast.Attribute, ast.Subscript, ast.Name, ast.List, ast.Tuple,
    ast.Slice,
)


def files():
    return sorted(path for path in PACKAGE.rglob("*") if "__pycache__" not in path.parts)


def trees():
    return [(path, ast.parse(path.read_text(encoding="ascii"))) for path in files()]


def bound(node):
    """The names that a node binds."""
    if isinstance(node, ast.Name) and isinstance(node.ctx, ast.Store):
        return [node.id]
    if isinstance(node, (ast.FunctionDef, ast.ClassDef)):
        return [node.name]
    if isinstance(node, ast.ImportFrom):
        return [alias.asname or alias.name for alias in node.names]
    return [node.arg] if isinstance(node, ast.arg) else []


class Language(unittest.TestCase):
    def test_files(self):
        for path in files():
            self.assertTrue(path.is_file() and re.fullmatch(r"[a-z][a-z0-9_]*\.py|__init__\.py", path.name), path)
            text = path.read_text(encoding="ascii")
            self.assertTrue(all(sign == "\n" or " " <= sign <= "~" for sign in text), path)
            self.assertLessEqual(len(text.splitlines()), 399, path)
            self.assertLessEqual(max(len(line) for line in text.splitlines()), 120, path)
            self.assertIsNone(WORDS.search(text), path)

    def test_kinds_of_nodes(self):
        for path, tree in trees():
            for node in ast.walk(tree):
                where = f"{path.name}:{getattr(node, 'lineno', 0)}"
                if isinstance(node, ast.stmt):
                    self.assertIsInstance(node, STATEMENTS, where)
                if isinstance(node, ast.expr):
                    self.assertIsInstance(node, EXPRESSIONS, where)
                if isinstance(node, ast.Constant):
                    self.assertIn(type(node.value), (int, str, bool, type(None)), where)
                self.assertNotIsInstance(node, (ast.Div, ast.MatMult), where)
                if isinstance(node, ast.Assign):
                    self.assertEqual(len(node.targets), 1, where)
                if isinstance(node, (ast.For, ast.While)):
                    self.assertFalse(node.orelse, where)
                if isinstance(node, ast.Try):
                    self.assertFalse(node.finalbody, where)
                if isinstance(node, ast.ListComp):
                    self.assertEqual(len(node.generators), 1, where)
                if isinstance(node, ast.BinOp) and isinstance(node.op, ast.Pow):
                    self.assertIsInstance(node.right, ast.Constant, where)

    def test_functions_and_classes(self):
        for path, tree in trees():
            for node in ast.walk(tree):
                if not isinstance(node, (ast.FunctionDef, ast.ClassDef)):
                    continue
                where = f"{path.name}:{node.lineno}"
                self.assertFalse(node.decorator_list, where)
                if isinstance(node, ast.FunctionDef):
                    self.assertLessEqual(node.end_lineno - node.lineno + 1, 40, where)
                    self.assertFalse(node.args.vararg or node.args.kwarg or node.args.kwonlyargs, where)
                    self.assertIsNone(node.returns, where)

    def test_names(self):
        for path, tree in trees():
            names = {name for node in ast.walk(tree) for name in bound(node)}
            self.assertFalse(names & (set(dir(builtins)) | UNUSED), path)
            own = [name for name in names if not re.fullmatch(r"[A-Za-z][A-Za-z0-9_]*|__init__", name)]
            self.assertFalse(own, path)
            read = {node.id for node in ast.walk(tree) if isinstance(node, ast.Name)}
            self.assertFalse(read - names - BUILT_IN, path)
            imported = [name for node in ast.walk(tree) if isinstance(node, ast.ImportFrom) for name in bound(node)]
            top = [name for node in tree.body for name in bound(node)]
            top += [name for node in tree.body if isinstance(node, ast.Assign) for name in bound(node.targets[0])]
            self.assertEqual(len(top), len(set(top)), path)
            inner = [
                name for node in ast.walk(tree) if isinstance(node, (ast.Name, ast.arg)) and node not in tree.body
                for name in bound(node)
            ]
            self.assertFalse(set(inner) & set(imported), path)

    def test_attributes(self):
        methods, values, attributes = set(), set(), set()
        for _, tree in trees():
            for node in ast.walk(tree):
                if isinstance(node, ast.ClassDef):
                    methods |= {inner.name for inner in node.body if isinstance(inner, ast.FunctionDef)}
                if isinstance(node, ast.Attribute):
                    attributes.add(node.attr)
                    if isinstance(node.ctx, ast.Store):
                        values.add(node.attr)
        self.assertFalse(methods & values)
        self.assertFalse((methods | values | attributes) & UNUSED)
        self.assertFalse(attributes - methods - values - METHODS)
        taken = set(dir(0)) | set(dir("")) | set(dir([])) | set(dir({})) | set(dir(b"")) | set(dir(set()))
        self.assertFalse((methods | values) & taken - {"__init__"})

    def test_imports(self):
        draws = {}
        for path, tree in trees():
            drawn = [node for node in ast.walk(tree) if isinstance(node, (ast.ImportFrom, ast.Import))]
            for node in drawn:
                self.assertIn(node, tree.body, path)
                self.assertEqual((node.level, node.module.split(".")[0]), (0, "jetblocks"), path)
                source = PACKAGE / (node.module.split(".")[1] + ".py")
                defined = {name for inner in ast.parse(source.read_text()).body for name in bound(inner)}
                defined |= {
                    inner.targets[0].id for inner in ast.parse(source.read_text()).body if isinstance(inner, ast.Assign)
                }
                self.assertLessEqual({alias.name for alias in node.names}, defined, path)
            draws[path.stem] = {node.module.split(".")[1] for node in drawn}
        while draws:
            free = [name for name in draws if not draws[name] & set(draws)]
            self.assertTrue(free, f"files that draw from one another: {sorted(draws)}")
            for name in free:
                draws.pop(name)

    def test_tops(self):
        for path, tree in trees():
            self.assertIsNotNone(ast.get_docstring(tree), path)
            for node in tree.body[1:]:
                self.assertIsInstance(node, (ast.ImportFrom, ast.FunctionDef, ast.ClassDef, ast.Assign), path)
                if isinstance(node, ast.Assign):
                    nested = [inner for inner in ast.walk(node.value) if isinstance(inner, (ast.List, ast.Dict, ast.Set))]
                    self.assertLessEqual(len(nested), 1, path)


if __name__ == "__main__":
    unittest.main()
