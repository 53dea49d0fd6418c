"""The package's files keep to the part of Python that the program is written in, as far as a look at them tells."""

import ast
import builtins
import pathlib
import re
import unittest

FOLDER = pathlib.Path(__file__).resolve().parent.parent / "tubedesk"
OUTSIDE = (ast.With, ast.Delete, ast.Global, ast.Nonlocal, ast.Assert, ast.Yield, ast.YieldFrom, ast.Await, ast.Match,
           ast.AsyncFunctionDef, ast.AsyncFor, ast.AsyncWith, ast.SetComp, ast.DictComp, ast.GeneratorExp, ast.Set,
           ast.NamedExpr, ast.Starred, ast.Div, ast.Import, ast.AnnAssign, ast.MatMult)
OWN = """len range enumerate zip min max sum abs sorted reversed int str bool list tuple dict set frozenset isinstance ord
    repr any all divmod ValueError Exception KeyError ZeroDivisionError""".split()
METHODS = """append clear copy count endswith extend find get index insert isalnum isalpha isdigit islower isspace isupper
    items join keys ljust lower lstrip partition pop remove replace reverse rfind rjust rpartition rsplit rstrip
    setdefault split splitlines startswith strip update upper values zfill bit_length""".split()
WORDS = re.compile(r"\b(type|typing|typing_extensions|enum|Enum|IntEnum|StrEnum|Flag|IntFlag|Generic|Protocol|ABC|ABCMeta"
                   r"|namedtuple|NamedTuple|TypedDict|TYPE_CHECKING|abstractmethod)\b|dataclass|overload|contextmanager")


def files():
    return sorted(FOLDER.glob("**/*.py"))


def nodes_told():
    """Each node of each file, and where it stands."""
    for path in files():
        for node in ast.walk(ast.parse(path.read_text())):
            yield node, "%s, line %d" % (path.name, getattr(node, "lineno", 0))


class Language(unittest.TestCase):
    def test_files_and_signs(self):
        self.assertTrue((FOLDER / "__init__.py").exists())
        for path in files():
            rows = path.read_text().split("\n")
            with self.subTest(file=path.name):
                self.assertLessEqual(len(rows), 401)
                self.assertLessEqual(max(len(row) for row in rows), 120)
                self.assertIsNone(re.search(r"[^ -~\n]", path.read_text()))
                self.assertIsNone(WORDS.search(path.read_text()))

    def test_nothing_outside_the_language(self):
        for node, where in nodes_told():
            self.assertNotIsInstance(node, OUTSIDE, where)
            if isinstance(node, ast.Constant):
                self.assertIn(type(node.value), (int, str, bool, type(None)), where)
            if isinstance(node, ast.Assign):
                self.assertEqual(len(node.targets), 1, where)
            if isinstance(node, (ast.For, ast.While)):
                self.assertEqual(node.orelse, [], where)
            if isinstance(node, ast.ImportFrom):
                self.assertTrue(node.level == 0 and node.module.startswith("tubedesk."), where)

    def test_functions(self):
        for node, where in nodes_told():
            if isinstance(node, ast.FunctionDef):
                self.assertLessEqual(node.end_lineno - node.lineno + 1, 40, where)
                self.assertEqual(node.decorator_list, [], where)
                self.assertTrue(node.args.vararg is None and node.args.kwarg is None and not node.args.kwonlyargs, where)

    def test_names(self):
        for path in files():
            tree = ast.parse(path.read_text())
            nodes = list(ast.walk(tree))
            bound = {node.id for node in nodes if isinstance(node, ast.Name) and isinstance(node.ctx, ast.Store)}
            bound |= {node.arg for node in nodes if isinstance(node, ast.arg)}
            defined = {node.name for node in nodes if isinstance(node, (ast.FunctionDef, ast.ClassDef, ast.alias))}
            read = {node.id for node in nodes if isinstance(node, ast.Name)}
            called = {node.attr for node in nodes if isinstance(node, ast.Attribute)}
            with self.subTest(file=path.name):
                self.assertEqual(sorted(read - bound - defined - set(OWN)), [])
                self.assertEqual(sorted((bound | defined) & set(dir(builtins))), [])
                self.assertEqual(sorted(bound & defined), [])
                self.assertEqual([name for name in sorted(bound | defined) if name.startswith("_")], [])
                self.assertEqual(sorted(called - set(METHODS)), [])
