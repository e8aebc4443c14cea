"""Looks at the package's own files for what ../shared/LANGUAGE.md leaves out, as far as it shows in the text."""

import ast
import builtins
import re
import unittest
from pathlib import Path

PACKAGE = Path(__file__).resolve().parent.parent / "shredcolumns"
NODES = set("""
    Module FunctionDef ClassDef Return Assign AugAssign For While If Raise Try ImportFrom Expr Pass Break Continue
    BoolOp BinOp UnaryOp Lambda IfExp Dict Set ListComp Compare Call FormattedValue JoinedStr Constant Attribute
    Subscript Name List Tuple Slice Load Store And Or Add Sub Mult Mod Pow LShift RShift BitOr BitXor BitAnd FloorDiv
    Invert Not UAdd USub Eq NotEq Lt LtE Gt GtE Is IsNot In NotIn comprehension ExceptHandler arguments arg keyword
    alias
""".split())
OWN_NAMES = set("""
    len range enumerate zip min max sum abs sorted reversed int str bool list tuple dict set frozenset isinstance ord
    repr any all divmod Exception ValueError TypeError KeyError IndexError LookupError ZeroDivisionError
    ArithmeticError OverflowError RuntimeError NotImplementedError AttributeError StopIteration
""".split())
OWN_METHODS = set("""
    append clear copy count endswith extend find get index insert isalnum isalpha isdigit islower isspace isupper
    items join keys ljust lower lstrip partition pop remove replace reverse rfind rjust rpartition rsplit rstrip
    setdefault split splitlines startswith strip update upper values zfill bit_length
""".split())
UNUSED_NAMES = set("""
    register mro elements open input version_info with_traceback add_note attrgetter breakpoint builtins compile
    copyright credits delattr dir eval exec exit gc getattr globals hasattr help id importlib license locals
    methodcaller os quit setattr super type vars sys chr format format_map
""".split())
UNUSED_WORDS = re.compile(
    r"\b(type|typing|typing_extensions|enum|Enum|IntEnum|StrEnum|Flag|IntFlag|Generic|Protocol|ABC|ABCMeta|namedtuple"
    r"|NamedTuple|TypedDict|TYPE_CHECKING|abstractmethod)\b|dataclass|overload|contextmanager"
)
PLAIN_NAME = re.compile(r"[A-Za-z][A-Za-z0-9_]*|__init__")


def files():
    return sorted(path for path in PACKAGE.rglob("*") if "__pycache__" not in path.parts)


def trees():
    return [(path, ast.parse(path.read_text())) for path in files()]


def nodes(kinds):
    return [(path, node) for path, tree in trees() for node in ast.walk(tree) if isinstance(node, kinds)]


def where(path, node):
    return f"{path.name}:{node.lineno}"


class TestLanguage(unittest.TestCase):
    def test_files(self):
        self.assertTrue(files())
        for path in files():
            self.assertTrue(re.fullmatch(r"[a-z0-9_]+\.py", path.name), path)
            self.assertFalse(path.stem != "__init__" and hasattr(builtins, path.stem), path)

    def test_lines(self):
        for path in files():
            text = path.read_text()
            self.assertTrue(re.fullmatch(r"[ -~\n]*", text), path)
            self.assertLessEqual(len(text.splitlines()), 400, path)
            self.assertIsNone(UNUSED_WORDS.search(text), path)
            for line in text.splitlines():
                self.assertLessEqual(len(line), 120, path)

    def test_only_plain_nodes(self):
        for path, tree in trees():
            for node in ast.walk(tree):
                self.assertIn(node.__class__.__name__, NODES, (path, getattr(node, "lineno", None)))

    def test_top_of_modules(self):
        for path, tree in trees():
            self.assertIsNotNone(ast.get_docstring(tree), path)
            for node in tree.body[1:]:
                self.assertIsInstance(node, (ast.ImportFrom, ast.FunctionDef, ast.ClassDef, ast.Assign), path)
                if isinstance(node, ast.Assign):
                    ast.literal_eval(node.value)

    def test_a_name_is_bound_once_at_the_top(self):
        for path, tree in trees():
            bound = []
            for node in tree.body[1:]:
                if isinstance(node, ast.ImportFrom):
                    bound += [alias.name for alias in node.names]
                elif isinstance(node, ast.Assign):
                    bound += [node.targets[0].id]
                else:
                    bound += [node.name]
            self.assertEqual(len(bound), len(set(bound)), path)

    def test_imports(self):
        defined = {}
        drawn = {}
        for path, tree in trees():
            defined[path.stem] = [getattr(node, "name", None) or node.targets[0].id for node in tree.body
                                  if isinstance(node, (ast.FunctionDef, ast.ClassDef, ast.Assign))]
            drawn[path.stem] = [node for node in tree.body if isinstance(node, ast.ImportFrom)]
        self.assertEqual(drawn["__init__"], [])
        for path, node in nodes(ast.ImportFrom):
            folder, module = node.module.split(".")
            self.assertEqual((folder, node.level), ("shredcolumns", 0), where(path, node))
            for alias in node.names:
                self.assertIn(alias.name, defined[module], where(path, node))
                self.assertIsNone(alias.asname, where(path, node))
        left = {name: {node.module.split(".")[1] for node in imports} for name, imports in drawn.items()}
        while left:
            free = [name for name, needs in left.items() if not needs & set(left)]
            self.assertTrue(free, "files draw from one another: " + " ".join(left))
            left = {name: needs for name, needs in left.items() if name not in free}

    def test_functions(self):
        for path, node in nodes(ast.FunctionDef):
            self.assertLessEqual(node.end_lineno - node.lineno + 1, 40, where(path, node))
            self.assertEqual((node.decorator_list, node.returns), ([], None), where(path, node))
            told = node.args
            self.assertEqual((told.vararg, told.kwarg, told.kwonlyargs, told.posonlyargs), (None, None, [], []))
            self.assertTrue(all(argument.annotation is None for argument in told.args), where(path, node))

    def test_statements(self):
        for path, node in nodes((ast.For, ast.While)):
            self.assertEqual(node.orelse, [], where(path, node))
        for path, node in nodes(ast.Try):
            self.assertEqual(node.finalbody, [], where(path, node))
        for path, node in nodes(ast.ExceptHandler):
            self.assertNotIn(getattr(node.type, "id", None), (None, "Exception", "TypeError"), where(path, node))
        for path, node in nodes(ast.Assign):
            self.assertEqual(len(node.targets), 1, where(path, node))
            self.assertNotIsInstance(node.targets[0], (ast.Tuple, ast.List), where(path, node))
        for path, tree in trees():
            for node in ast.walk(tree):
                if isinstance(node, ast.Expr) and node is not tree.body[0]:
                    self.assertIsInstance(node.value, ast.Call, where(path, node))

    def test_expressions(self):
        for path, node in nodes(ast.Constant):
            self.assertIn(type(node.value), (int, str, bool, type(None)), where(path, node))
            if isinstance(node.value, str):
                self.assertNotIn("%", node.value, where(path, node))
        for path, node in nodes(ast.ListComp):
            self.assertEqual(len(node.generators), 1, where(path, node))
            self.assertLessEqual(len(node.generators[0].ifs), 1, where(path, node))
        for path, node in nodes(ast.Compare):
            if any(isinstance(operator, (ast.Is, ast.IsNot)) for operator in node.ops):
                self.assertIsInstance(node.comparators[-1], ast.Constant, where(path, node))
        for path, node in nodes(ast.BinOp):
            if isinstance(node.op, ast.Pow):
                self.assertIsInstance(node.right, ast.Constant, where(path, node))

    def test_names(self):
        every = dir(builtins)
        for path, node in nodes((ast.Name, ast.arg, ast.FunctionDef, ast.ClassDef)):
            name = getattr(node, "id", None) or getattr(node, "arg", None) or node.name
            self.assertTrue(PLAIN_NAME.fullmatch(name), where(path, node))
            self.assertNotIn(name, UNUSED_NAMES, where(path, node))
            if name in every:
                self.assertIsInstance(node, ast.Name, where(path, node))
                self.assertIsInstance(node.ctx, ast.Load, where(path, node))
                self.assertIn(name, OWN_NAMES, where(path, node))

    def test_locals_are_unlike_the_names_of_the_top(self):
        for path, tree in trees():
            top = {alias.name for node in tree.body if isinstance(node, ast.ImportFrom) for alias in node.names}
            top |= {node.name for node in tree.body if isinstance(node, (ast.FunctionDef, ast.ClassDef))}
            for function in (node for node in ast.walk(tree) if isinstance(node, ast.FunctionDef)):
                inner = {node.arg for node in ast.walk(function) if isinstance(node, ast.arg)}
                inner |= {node.id for node in ast.walk(function)
                          if isinstance(node, ast.Name) and isinstance(node.ctx, ast.Store)}
                self.assertEqual(inner & top, set(), where(path, function))

    def test_methods_and_values(self):
        methods = {node.name for path, owner in nodes(ast.ClassDef) for node in owner.body
                   if isinstance(node, ast.FunctionDef)}
        stored = {node.attr for path, node in nodes(ast.Attribute) if isinstance(node.ctx, ast.Store)}
        self.assertEqual(methods & stored, set())
        everything = {name for kind in (str, int, list, dict, set, bytes) for name in dir(kind)} - {"__init__"}
        self.assertEqual((methods | stored) & everything, set())
        for path, tree in trees():
            found = [node for node in ast.walk(tree) if isinstance(node, ast.Attribute)]
            used_as_call = {id(node.func) for node in ast.walk(tree) if isinstance(node, ast.Call)}
            for node in found:
                self.assertNotIn(node.attr, UNUSED_NAMES, where(path, node))
                if id(node) in used_as_call:
                    self.assertIn(node.attr, methods | OWN_METHODS, where(path, node))
                else:
                    self.assertIn(node.attr, stored, where(path, node))

    def test_classes(self):
        for path, owner in nodes(ast.ClassDef):
            self.assertEqual((owner.decorator_list, owner.keywords), ([], []), where(path, owner))
            self.assertLessEqual(len(owner.bases), 1, where(path, owner))
            names = [node.name for node in owner.body if isinstance(node, ast.FunctionDef)]
            self.assertEqual(len(names), len(set(names)), where(path, owner))
            for node in owner.body:
                self.assertIsInstance(node, (ast.FunctionDef, ast.Pass), where(path, node))


if __name__ == "__main__":
    unittest.main()
