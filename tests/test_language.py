"""Those rules for the package's files that are plain to check: L1, L2, L8, L10, L12, L14, L16, L17."""

import ast
import builtins
import pathlib
import re
import unittest

FOLDER = pathlib.Path(__file__).resolve().parent.parent / "huesbelow"

BUILTINS = """len range enumerate zip min max sum abs sorted reversed int str bool bytes list tuple dict set frozenset
isinstance ord repr any all divmod Exception ValueError TypeError KeyError IndexError LookupError ZeroDivisionError
ArithmeticError OverflowError RuntimeError NotImplementedError AttributeError StopIteration NotImplemented""".split()

WORDS = """type typing typing_extensions enum Enum IntEnum StrEnum Flag IntFlag Generic Protocol ABC ABCMeta namedtuple
NamedTuple TypedDict TYPE_CHECKING abstractmethod""".split()

PARTS = ["dataclass", "overload", "contextmanager"]


class Rules(unittest.TestCase):
    def setUp(self):
        self.texts = {path.name: path.read_text("ascii") for path in sorted(FOLDER.glob("*.py"))}
        self.assertIn("__init__.py", self.texts)

    def nodes(self):
        for name, text in self.texts.items():
            for node in ast.walk(ast.parse(text)):
                yield name, node

    def test_only_plainly_named_files(self):
        for path in FOLDER.iterdir():
            if path.name != "__pycache__":
                self.assertRegex(path.name, r"^(__init__|[a-z][a-z0-9_]*)\.py$")

    def test_size_and_characters(self):
        for name, text in self.texts.items():
            self.assertRegex(text, r"\A[\n -~]*\Z", name)
            self.assertLessEqual(len(text.splitlines()), 400, name)
            self.assertLessEqual(max(len(line) for line in text.splitlines()), 120, name)
        for name, node in self.nodes():
            if isinstance(node, ast.FunctionDef):
                self.assertLessEqual(node.end_lineno - node.lineno + 1, 40, (name, node.name))

    def test_words(self):
        for name, text in self.texts.items():
            self.assertEqual([word for word in WORDS if re.search(rf"\b{word}\b", text)], [], name)
            self.assertEqual([part for part in PARTS if part in text], [], name)

    def test_imports(self):
        for name, node in self.nodes():
            self.assertNotIsInstance(node, ast.Import, name)
            if isinstance(node, ast.ImportFrom):
                self.assertEqual(node.level, 0, name)
                folder, _, module = node.module.partition(".")
                self.assertEqual(folder, "huesbelow", name)
                defined = [row.name for row in ast.parse(self.texts[module + ".py"]).body if hasattr(row, "name")]
                self.assertEqual([each.name for each in node.names if each.name not in defined], [], name)

    def test_names(self):
        for name, node in self.nodes():
            if isinstance(node, ast.Name):
                told = node.id
                if hasattr(builtins, told):
                    self.assertIn(told, BUILTINS, name)
                    self.assertIsInstance(node.ctx, ast.Load, (name, told))
                self.assertFalse(told.startswith("_"), (name, told))
            if isinstance(node, ast.arg):
                self.assertFalse(hasattr(builtins, node.arg), (name, node.arg))
