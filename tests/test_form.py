"""The package's form: those of the language's rules that can be seen file by file."""

import ast
import builtins
import pathlib
import re
import unittest

PACKAGE = pathlib.Path(__file__).resolve().parent.parent / "lentground"

NODES = """Module Expr Constant ImportFrom alias FunctionDef arguments arg ClassDef Assign AugAssign Name Load Store
Attribute Subscript Slice List Tuple Dict If While For Return Break Continue Pass Raise Try ExceptHandler Call
keyword BinOp Add Sub Mult FloorDiv Mod BitAnd BitOr BitXor LShift RShift UnaryOp USub Not BoolOp And Or Compare Eq
NotEq Lt LtE Gt GtE Is IsNot In NotIn IfExp ListComp comprehension Lambda JoinedStr FormattedValue""".split()

BUILTINS = """len range enumerate zip min max sum abs sorted reversed int str bool list tuple dict set frozenset
isinstance ord repr any all divmod Exception ValueError TypeError KeyError IndexError LookupError ZeroDivisionError
ArithmeticError OverflowError RuntimeError NotImplementedError StopIteration""".split()

METHODS = """append clear copy count endswith extend find get index insert isalnum isalpha isdigit islower isspace
isupper items join keys ljust lower lstrip partition pop remove replace reverse rfind rjust rpartition rsplit rstrip
setdefault split splitlines startswith strip update upper values zfill bit_length""".split()

WORDS = """type typing typing_extensions enum Enum IntEnum StrEnum Flag IntFlag Generic Protocol ABC ABCMeta namedtuple
NamedTuple TypedDict TYPE_CHECKING abstractmethod""".split()

UNUSED = "register mro elements open input version_info with_traceback add_note".split()


def files():
    return sorted(path for path in PACKAGE.rglob("*") if path.is_file() and "__pycache__" not in path.parts)


def trees():
    return [(path, ast.parse(path.read_text())) for path in files()]


def nodes():
    return [(f"{path.name}:{getattr(node, 'lineno', 0)}", node) for path, tree in trees() for node in ast.walk(tree)]


def bound_names():
    """Each name that a file binds: a def, a class, a parameter, a local, a value of an object."""
    found = []
    for where, node in nodes():
        if isinstance(node, (ast.FunctionDef, ast.ClassDef)):
            found.append((where, node.name))
        if isinstance(node, ast.arg):
            found.append((where, node.arg))
        if isinstance(node, ast.Name) and isinstance(node.ctx, ast.Store):
            found.append((where, node.id))
    return found


class Form(unittest.TestCase):
    def test_files_and_signs(self):
        self.assertIn(PACKAGE / "__init__.py", files())
        for path in files():
            self.assertRegex(path.name, r"^([a-z][a-z0-9_]*|__init__)\.py$")
            text = path.read_text(encoding="utf-8")
            self.assertRegex(text, r"\A[ -~\n]*\Z", path.name)
            lines = text.split("\n")
            self.assertLessEqual(len(lines), 400, path.name)
            self.assertLessEqual(max(len(line) for line in lines), 120, path.name)
            for word in WORDS:
                self.assertIsNone(re.search(rf"\b{word}\b", text), (path.name, word))
            self.assertIsNone(re.search("dataclass|overload|contextmanager", text), path.name)

    def test_functions_are_short_and_plain(self):
        for where, node in nodes():
            if isinstance(node, ast.FunctionDef):
                self.assertLessEqual(node.end_lineno - node.lineno + 1, 40, where)
                self.assertEqual(node.decorator_list, [], where)
                arguments = node.args
                self.assertFalse(arguments.vararg or arguments.kwarg or arguments.kwonlyargs, where)

    def test_kinds_of_nodes(self):
        for where, node in nodes():
            self.assertIn(node.__class__.__name__, NODES, where)
            if isinstance(node, ast.Assign):
                self.assertEqual(len(node.targets), 1, where)
            if isinstance(node, (ast.For, ast.While)):
                self.assertEqual(node.orelse, [], where)
            if isinstance(node, ast.Compare) and isinstance(node.ops[0], (ast.Is, ast.IsNot)):
                self.assertIn(ast.unparse(node.comparators[0]), ("None", "True", "False"), where)

    def test_imports(self):
        modules = {f"lentground.{path.stem}" for path in files() if path.stem != "__init__"}
        for where, node in nodes():
            if isinstance(node, ast.ImportFrom):
                self.assertEqual(node.level, 0, where)
                self.assertIn(node.module, modules, where)
                self.assertTrue(all(alias.name != "*" and alias.asname is None for alias in node.names), where)

    def test_names(self):
        for where, name in bound_names():
            if name == "__init__":
                continue
            self.assertRegex(name, r"^[A-Za-z][A-Za-z0-9_]*$", where)
            self.assertFalse(hasattr(builtins, name), (where, name))
            self.assertNotIn(name, UNUSED, where)
        for where, node in nodes():
            if isinstance(node, ast.Name) and hasattr(builtins, node.id):
                self.assertIn(node.id, BUILTINS, where)

    def test_methods(self):
        own = {name for where, name in bound_names()}
        values = {node.attr for where, node in nodes()
                  if isinstance(node, ast.Attribute) and isinstance(node.ctx, ast.Store)}
        methods = {part.name for where, node in nodes() if isinstance(node, ast.ClassDef)
                   for part in node.body if isinstance(part, ast.FunctionDef)}
        self.assertEqual(values & methods, set())
        for where, node in nodes():
            if isinstance(node, ast.Attribute):
                self.assertNotIn(node.attr, UNUSED, where)
                self.assertTrue(node.attr in own or node.attr in values or node.attr in METHODS, (where, node.attr))


if __name__ == "__main__":
    unittest.main()
