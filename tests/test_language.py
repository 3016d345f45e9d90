"""Those rules of the language subset that can be seen in the files at once."""

import ast
import builtins
import re
import unittest
from pathlib import Path

FOLDER = Path(__file__).resolve().parent.parent / "rungladders"
BUILTINS = {name for name in dir(builtins) if not name.startswith("_")}
ALLOWED_BUILTINS = set("""
    len range enumerate zip min max sum abs sorted reversed int str bool bytes list tuple dict set frozenset isinstance
    ord repr any all divmod iter next super property staticmethod classmethod Exception ValueError TypeError KeyError
    IndexError LookupError ZeroDivisionError ArithmeticError OverflowError RuntimeError NotImplementedError
    AttributeError StopIteration NotImplemented
""".split())
BARRED_WORDS = re.compile(
    r"\b(type|typing|typing_extensions|enum|Enum|IntEnum|StrEnum|Flag|IntFlag|Generic|Protocol|ABC|ABCMeta|namedtuple"
    r"|NamedTuple|TypedDict|TYPE_CHECKING|abstractmethod)\b|dataclass|overload|contextmanager")
BARRED_NODES = (
    ast.Global, ast.AsyncFunctionDef, ast.AsyncFor, ast.AsyncWith, ast.Await, ast.Import, ast.Div, ast.MatMult,
)
BARRED_NAMES = set("""
    register mro elements open input law version_info with_traceback add_note attrgetter breakpoint builtins compile
    copyright credits delattr dir eval exec exit gc getattr globals hasattr help id importlib license locals
    methodcaller os quit setattr sys vars chr print
""".split())


def named(node):
    """The names that a node gives or reads."""
    for field in ("id", "name", "arg", "attr"):
        value = getattr(node, field, None)
        if isinstance(value, str):
            yield value


class LanguageTest(unittest.TestCase):
    def setUp(self):
        self.texts = {path: path.read_text(encoding="utf-8") for path in sorted(FOLDER.glob("*.py"))}
        self.trees = {path: ast.parse(text) for path, text in self.texts.items()}

    def nodes(self):
        for path, tree in self.trees.items():
            for node in ast.walk(tree):
                yield path.name, node

    def test_folder_holds_python_files_alone(self):
        others = [path.name for path in FOLDER.iterdir() if path not in self.texts and path.name != "__pycache__"]
        self.assertEqual(others, [])
        for path in self.texts:
            self.assertRegex(path.name, r"^[a-z0-9_]+\.py$")

    def test_characters_words_and_sizes(self):
        for path, text in self.texts.items():
            self.assertRegex(text, r"\A[ -~\n]*\Z", path.name)
            self.assertIsNone(BARRED_WORDS.search(text), path.name)
            rows = text.split("\n")
            self.assertLess(len(rows), 400, path.name)
            self.assertLessEqual(max(len(row) for row in rows), 120, path.name)

    def test_functions_have_at_most_40_lines(self):
        for name, node in self.nodes():
            if isinstance(node, ast.FunctionDef):
                self.assertLessEqual(node.end_lineno - node.lineno + 1, 40, (name, node.name))

    def test_imports_name_the_file_that_defines(self):
        for name, node in self.nodes():
            if isinstance(node, ast.ImportFrom):
                package, _, module = node.module.partition(".")
                self.assertEqual((package, node.level), ("rungladders", 0), name)
                tree = self.trees[FOLDER / f"{module}.py"]
                here = {part.name for part in tree.body if isinstance(part, (ast.FunctionDef, ast.ClassDef))}
                here |= {part.targets[0].id for part in tree.body if isinstance(part, ast.Assign)}
                for alias in node.names:
                    self.assertIn(alias.name, here, name)

    def test_statements_and_values(self):
        for name, node in self.nodes():
            self.assertNotIsInstance(node, BARRED_NODES, (name, getattr(node, "lineno", None)))
            if isinstance(node, ast.Constant):
                self.assertNotIsInstance(node.value, (float, complex), name)
                self.assertFalse(isinstance(node.value, str) and "%" in node.value, name)
            if isinstance(node, ast.Compare) and any(isinstance(sign, (ast.Is, ast.IsNot)) for sign in node.ops):
                self.assertIsInstance(node.comparators[0], ast.Constant, name)

    def test_names(self):
        for name, node in self.nodes():
            for word in named(node):
                self.assertNotIn(word, BARRED_NAMES, name)
                self.assertTrue(not word.startswith("_") or (word.startswith("__") and word.endswith("__")), (name, word))
            if isinstance(node, ast.Name) and node.id in BUILTINS:
                self.assertIn(node.id, ALLOWED_BUILTINS, name)
                self.assertIsInstance(node.ctx, ast.Load, name)
            if isinstance(node, (ast.arg, ast.FunctionDef, ast.ClassDef)):
                self.assertFalse(any(word in BUILTINS for word in named(node)), name)


if __name__ == "__main__":
    unittest.main()
