"""The form of the package's files: the rules that a look at the text or its tree can tell."""

import ast
import pathlib
import re
import unittest

PACKAGE = pathlib.Path(__file__).resolve().parent.parent / "twoorders"

UNWANTED_WORDS = re.compile(
    r"\b(type|typing|typing_extensions|enum|Enum|IntEnum|StrEnum|Flag|IntFlag|Generic|Protocol|ABC|ABCMeta"
    r"|namedtuple|NamedTuple|TypedDict|TYPE_CHECKING|abstractmethod)\b|dataclass|overload|contextmanager")

BUILT_IN = set(
    "len range enumerate zip min max sum abs sorted reversed int str bool list tuple dict set frozenset isinstance"
    " ord repr any all divmod Exception ValueError TypeError KeyError IndexError LookupError ZeroDivisionError"
    " ArithmeticError OverflowError RuntimeError NotImplementedError AttributeError StopIteration".split())

METHODS = set(
    "append clear copy count endswith extend find get index insert isalnum isalpha isdigit islower isspace isupper"
    " items join keys ljust lower lstrip partition pop remove replace reverse rfind rjust rpartition rsplit rstrip"
    " setdefault split splitlines startswith strip update upper values zfill bit_length".split())

UNWANTED_NODES = (
    ast.With, ast.Match, ast.Delete, ast.Global, ast.Nonlocal, ast.Assert, ast.Yield, ast.YieldFrom, ast.Await,
    ast.AsyncFunctionDef, ast.AsyncFor, ast.AsyncWith, ast.SetComp, ast.DictComp, ast.GeneratorExp, ast.NamedExpr,
    ast.Starred, ast.Div, ast.MatMult, ast.Import, ast.AnnAssign)


def sources():
    return sorted(PACKAGE.rglob("*.py"))


def trees():
    return [(path.name, ast.parse(path.read_text())) for path in sources()]


def nodes(kind):
    return [(name, node) for name, tree in trees() for node in ast.walk(tree) if isinstance(node, kind)]


def where(name, node):
    return f"{name}:{getattr(node, 'lineno', 0)}"


def own_names():
    """Every name that the package itself gives to something."""
    found = {}
    for name, node in nodes((ast.FunctionDef, ast.ClassDef)):
        found[node.name] = True
    for name, node in nodes(ast.arg):
        found[node.arg] = True
    for name, node in nodes((ast.Name, ast.Attribute)):
        if isinstance(node.ctx, ast.Store):
            found[node.id if isinstance(node, ast.Name) else node.attr] = True
    for name, node in nodes(ast.ExceptHandler):
        if node.name:
            found[node.name] = True
    return found


class Files(unittest.TestCase):
    def test_only_python_files_with_plain_names(self):
        for path in PACKAGE.rglob("*"):
            if path.name != "__pycache__" and path.parent.name != "__pycache__":
                self.assertRegex(path.name, r"^(__init__|__main__|[a-z][a-z0-9_]*)\.py$")
        self.assertTrue((PACKAGE / "__init__.py").exists())

    def test_signs_and_sizes(self):
        for path in sources():
            lines = path.read_bytes().decode("ascii").split("\n")
            self.assertLessEqual(len(lines), 400, path.name)
            for number, line in enumerate(lines, start=1):
                self.assertRegex(line, r"^[ -~]*$", f"{path.name}:{number}")
                self.assertLessEqual(len(line), 120, f"{path.name}:{number}")
                self.assertIsNone(UNWANTED_WORDS.search(line), f"{path.name}:{number}")

    def test_no_long_function(self):
        for name, node in nodes(ast.FunctionDef):
            self.assertLessEqual(node.end_lineno - node.lineno + 1, 40, where(name, node))


class Code(unittest.TestCase):
    def test_nothing_of_the_language_that_is_left_out(self):
        for name, node in nodes(UNWANTED_NODES):
            self.fail(f"{where(name, node)} {node}")
        for name, node in nodes((ast.For, ast.While)):
            self.assertEqual(node.orelse, [], where(name, node))
        for name, node in nodes(ast.Try):
            self.assertEqual(node.finalbody, [], where(name, node))
        for name, node in nodes(ast.Assign):
            self.assertEqual(len(node.targets), 1, where(name, node))
        for name, node in nodes((ast.FunctionDef, ast.ClassDef)):
            self.assertEqual(node.decorator_list, [], where(name, node))
        for name, node in nodes(ast.arguments):
            self.assertEqual((node.vararg, node.kwarg, node.kwonlyargs, node.posonlyargs), (None, None, [], []), name)

    def test_no_values_that_are_left_out(self):
        for name, node in nodes(ast.Constant):
            self.assertIn(type(node.value), (int, str, bool, type(None)), where(name, node))
            if isinstance(node.value, str):
                self.assertNotIn("%", node.value, where(name, node))

    def test_imports_are_the_packages_own(self):
        for name, node in nodes(ast.ImportFrom):
            self.assertEqual(node.level, 0, where(name, node))
            self.assertTrue(node.module.startswith("twoorders."), where(name, node))
            self.assertNotIn("*", [one.name for one in node.names], where(name, node))

    def test_names(self):
        own = own_names()
        for name in own:
            self.assertRegex(name, r"^([A-Za-z][A-Za-z0-9_]*|__(init|eq|repr|str|len)__)$")
            self.assertNotIn(name, BUILT_IN)
        for name, node in nodes(ast.Name):
            self.assertTrue(node.id in own or node.id in BUILT_IN, f"{where(name, node)} {node.id}")
        for name, node in nodes(ast.Attribute):
            self.assertTrue(node.attr in own or node.attr in METHODS, f"{where(name, node)} {node.attr}")

    def test_no_method_is_a_value_elsewhere(self):
        methods = [part.name for name, node in nodes(ast.ClassDef) for part in node.body
                   if isinstance(part, ast.FunctionDef)]
        for name, node in nodes(ast.Attribute):
            if isinstance(node.ctx, ast.Store):
                self.assertNotIn(node.attr, methods, where(name, node))


if __name__ == "__main__":
    unittest.main()
