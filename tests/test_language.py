"""The package's files keep to the small part of Python: what can be seen from a file's words and tree."""

import ast
import builtins
import pathlib
import re
import unittest

import duelaims

FOLDER = pathlib.Path(duelaims.__file__).parent

OWN_NAMES = (
    "len range enumerate zip min max sum abs sorted reversed int str bool list tuple dict set frozenset isinstance "
    "ord repr any all divmod Exception ValueError TypeError KeyError IndexError LookupError ZeroDivisionError "
    "ArithmeticError OverflowError RuntimeError NotImplementedError StopIteration"
).split()

METHODS = (
    "append clear copy count endswith extend find get index insert isalnum isalpha isdigit islower isspace isupper "
    "items join keys ljust lower lstrip partition pop remove replace reverse rfind rjust rpartition rsplit rstrip "
    "setdefault split splitlines startswith strip update upper values zfill bit_length"
).split()

BARRED_WORDS = re.compile(
    r"\b(type|typing|typing_extensions|enum|Enum|IntEnum|StrEnum|Flag|IntFlag|Generic|Protocol|ABC|ABCMeta|namedtuple"
    r"|NamedTuple|TypedDict|TYPE_CHECKING|abstractmethod)\b|dataclass|overload|contextmanager"
)

BARRED_NODES = (
    ast.Import, ast.ImportFrom, ast.With, ast.Match, ast.Delete, ast.Global, ast.Nonlocal, ast.Assert, ast.Yield,
    ast.YieldFrom, ast.Await, ast.AsyncFunctionDef, ast.AsyncFor, ast.AsyncWith, ast.Set, ast.SetComp, ast.DictComp,
    ast.GeneratorExp, ast.NamedExpr, ast.Starred, ast.Div, ast.MatMult, ast.AnnAssign,
)


def files():
    return sorted(FOLDER.glob("*.py"))


def bound_names(tree):
    """Every name that a file gives a meaning to."""
    names = {node.id for node in ast.walk(tree) if isinstance(node, ast.Name) and isinstance(node.ctx, ast.Store)}
    names |= {node.name for node in ast.walk(tree) if isinstance(node, (ast.FunctionDef, ast.ClassDef))}
    return names | {node.arg for node in ast.walk(tree) if isinstance(node, ast.arg)}


class Language(unittest.TestCase):
    def each_tree(self):
        for path in files():
            yield path, ast.parse(path.read_text(encoding="ascii"))

    def test_the_folder_holds_plain_files(self):
        found = sorted(path.name for path in FOLDER.iterdir() if path.name != "__pycache__")
        self.assertEqual(found, [path.name for path in files()])
        self.assertIn("__init__.py", found)
        self.assertIn("duel.py", found)

    def test_words_and_sizes(self):
        for path in files():
            text = path.read_text(encoding="ascii")
            lines = text.splitlines()
            self.assertLessEqual(len(lines), 400, path)
            self.assertLessEqual(max(len(line) for line in lines), 120, path)
            self.assertIsNone(re.search(r"[^ -~\n]", text), path)
            self.assertIsNone(BARRED_WORDS.search(text), path)

    def test_statements_and_functions(self):
        for path, tree in self.each_tree():
            for node in ast.walk(tree):
                self.assertNotIsInstance(node, BARRED_NODES, path)
                if isinstance(node, ast.FunctionDef):
                    self.assertLessEqual(node.end_lineno - node.lineno + 1, 40, node.name)
                    self.assertEqual(node.decorator_list, [], node.name)
                if isinstance(node, ast.Assign):
                    self.assertEqual(len(node.targets), 1, node.lineno)
                    self.assertNotIsInstance(node.targets[0], (ast.Tuple, ast.List), node.lineno)
                if isinstance(node, (ast.For, ast.While)):
                    self.assertEqual(node.orelse, [], node.lineno)
                if isinstance(node, ast.Constant):
                    self.assertIsInstance(node.value, (int, str, bool, type(None)), node.lineno)
                if isinstance(node, ast.BinOp) and isinstance(node.op, ast.Pow):
                    self.assertIsInstance(node.right, ast.Constant, node.lineno)

    def test_names(self):
        for path, tree in self.each_tree():
            bound = bound_names(tree)
            for name in bound - {"__init__"}:
                self.assertRegex(name, r"^[A-Za-z][A-Za-z0-9_]*$", path)
                self.assertNotIn(name, dir(builtins), path)
            used = {node.id for node in ast.walk(tree) if isinstance(node, ast.Name)}
            self.assertEqual(used - bound - set(OWN_NAMES), set(), path)

    def test_methods(self):
        for path, tree in self.each_tree():
            bound = bound_names(tree)
            for node in ast.walk(tree):
                if isinstance(node, ast.Call) and isinstance(node.func, ast.Attribute):
                    self.assertIn(node.func.attr, METHODS + sorted(bound), node.lineno)


if __name__ == "__main__":
    unittest.main()
