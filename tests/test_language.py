"""Those rules for the package's files that are plain to check, of L1 to L3, L6 to L8, L10, L12, L14 to L18, L20 to L27."""

import ast
import builtins
import pathlib
import re
import unittest

FOLDER = pathlib.Path(__file__).resolve().parent.parent / "huesbelow"

BUILTINS = """len range enumerate zip min max sum abs sorted reversed int str bool bytes list tuple dict set frozenset
isinstance ord repr any all divmod Exception ValueError TypeError KeyError IndexError LookupError ZeroDivisionError
ArithmeticError OverflowError RuntimeError NotImplementedError AttributeError StopIteration NotImplemented""".split()

WORDS = """type typing typing_extensions enum Enum IntEnum StrEnum Flag IntFlag Generic Protocol ABC ABCMeta namedtuple
NamedTuple TypedDict TYPE_CHECKING abstractmethod""".split()

PARTS = ["dataclass", "overload", "contextmanager"]

# What the package has used so far of what L6 and L7 allow; what is added here must be looked up there first.
NODES = """Module FunctionDef ClassDef ImportFrom alias arguments arg Load Store Expr Assign AugAssign Return If While For
Raise Break Continue Name Constant Attribute Subscript Slice Call keyword List Tuple Dict ListComp comprehension IfExp BinOp
UnaryOp BoolOp Compare Add Sub BitAnd BitOr And Or Not USub Lt LtE Gt GtE Eq NotEq In NotIn Is IsNot SetComp DictComp
Delete Del JoinedStr FormattedValue Mult""".split()

METHODS = """append clear copy count endswith extend find get index insert isalnum isalpha isdigit islower isspace isupper
items join keys ljust lower lstrip partition pop remove replace reverse rfind rjust rpartition rsplit rstrip setdefault
split splitlines startswith strip update upper values zfill bit_length isascii removeprefix""".split()

VIEWS = ["zip", "enumerate", "reversed", "range"]

KEYWORDS = {"sorted": ["key", "reverse"], "min": ["key", "default"], "max": ["key", "default"], "sum": ["start"]}


def called(node):
    """The name of the builtin or own function that is called here, if a name is."""
    return node.func.id if isinstance(node, ast.Call) and isinstance(node.func, ast.Name) else None


def with_parents(tree):
    """Each node with the node that it stands in, and the one around that."""
    around = {tree: None}
    for node in ast.walk(tree):
        for child in ast.iter_child_nodes(node):
            # The signs of two operations may be one and the same object.
            if not isinstance(child, (ast.operator, ast.cmpop, ast.expr_context, ast.boolop, ast.unaryop)):
                around[child] = node
    return around


class Rules(unittest.TestCase):
    def setUp(self):
        self.texts = {path.name: path.read_text("ascii") for path in sorted(FOLDER.glob("*.py"))}
        self.assertIn("__init__.py", self.texts)

    def nodes(self):
        for name, text in self.texts.items():
            for node in ast.walk(ast.parse(text)):
                yield name, node

    def test_only_plainly_named_files(self):
        for path in FOLDER.iterdir():
            if path.name != "__pycache__":
                self.assertRegex(path.name, r"^(__init__|[a-z][a-z0-9_]*)\.py$")

    def test_size_and_characters(self):
        for name, text in self.texts.items():
            self.assertRegex(text, r"\A[\n -~]*\Z", name)
            self.assertLessEqual(len(text.splitlines()), 400, name)
            self.assertLessEqual(max(len(line) for line in text.splitlines()), 120, name)
        for name, node in self.nodes():
            if isinstance(node, ast.FunctionDef):
                self.assertLessEqual(node.end_lineno - node.lineno + 1, 40, (name, node.name))

    def test_words(self):
        for name, text in self.texts.items():
            self.assertEqual([word for word in WORDS if re.search(rf"\b{word}\b", text)], [], name)
            self.assertEqual([part for part in PARTS if part in text], [], name)

    def test_imports(self):
        for name, node in self.nodes():
            self.assertNotIsInstance(node, ast.Import, name)
            if isinstance(node, ast.ImportFrom):
                self.assertEqual(node.level, 0, name)
                folder, _, module = node.module.partition(".")
                self.assertEqual(folder, "huesbelow", name)
                defined = [row.name for row in ast.parse(self.texts[module + ".py"]).body if hasattr(row, "name")]
                self.assertEqual([each.name for each in node.names if each.name not in defined], [], name)

    def test_names(self):
        for name, node in self.nodes():
            if isinstance(node, ast.Name):
                told = node.id
                if hasattr(builtins, told):
                    self.assertIn(told, BUILTINS, name)
                    self.assertIsInstance(node.ctx, ast.Load, (name, told))
                self.assertFalse(told.startswith("_"), (name, told))
            if isinstance(node, ast.arg):
                self.assertFalse(hasattr(builtins, node.arg), (name, node.arg))

    def test_statements_and_expressions(self):
        for name, node in self.nodes():
            self.assertIn(node.__class__.__name__, NODES, (name, getattr(node, "lineno", None)))

    def test_constants(self):
        for name, node in self.nodes():
            if isinstance(node, ast.Constant):
                self.assertIn(type(node.value), (int, str, bool, type(None)), (name, node.lineno))
                self.assertNotIn("%", str(node.value), (name, node.lineno))

    def test_is(self):
        for name, node in self.nodes():
            if isinstance(node, ast.Compare):
                for sign, right in zip(node.ops, node.comparators):
                    if isinstance(sign, (ast.Is, ast.IsNot)):
                        self.assertIsInstance(right, ast.Constant, (name, node.lineno))
                        self.assertIn(right.value, (None, True, False), (name, node.lineno))

    def test_methods_and_keywords(self):
        # Attributes and methods of the package's own classes are free.
        own = [node.attr for _, node in self.nodes() if isinstance(node, ast.Attribute) and isinstance(node.ctx, ast.Store)]
        for _, node in self.nodes():
            if isinstance(node, ast.ClassDef):
                own += [row.name for row in node.body if isinstance(row, ast.FunctionDef)]
        for name, node in self.nodes():
            if isinstance(node, ast.Attribute):
                self.assertIn(node.attr, METHODS + own, (name, node.lineno))
            if isinstance(node, ast.Call):
                allowed = KEYWORDS.get(called(node), [])
                self.assertEqual([each.arg for each in node.keywords if each.arg not in allowed], [], (name, node.lineno))

    def test_no_name_is_a_method_and_an_attribute(self):
        methods, attributes = set(), set()
        for name, node in self.nodes():
            if isinstance(node, ast.ClassDef):
                told = [row.name for row in node.body if isinstance(row, ast.FunctionDef)]
                self.assertEqual(len(told), len(set(told)), (name, node.name))
                methods.update(told)
            if isinstance(node, ast.Attribute) and isinstance(node.ctx, ast.Store):
                attributes.add(node.attr)
        self.assertEqual(methods & attributes, set())
        values = {each for value in ("", 0, b"", [], {}, set(), ()) for each in dir(value)}
        self.assertEqual((methods - {"__init__"} | attributes) & values, set())

    def test_f_strings_are_plain(self):
        for name, text in self.texts.items():
            for node in ast.walk(ast.parse(text)):
                if isinstance(node, ast.JoinedStr):
                    self.assertEqual(node.lineno, node.end_lineno, (name, node.lineno))
                if isinstance(node, ast.FormattedValue):
                    self.assertEqual(node.conversion, -1, (name, node.lineno))
                    self.assertIsNone(node.format_spec, (name, node.lineno))
                    inner = [each for each in ast.walk(node.value) if isinstance(each, (ast.Constant, ast.JoinedStr))]
                    self.assertEqual([each for each in inner if not isinstance(getattr(each, "value", ""), int)], [])

    def test_deleted_are_items_only(self):
        for name, node in self.nodes():
            if isinstance(node, ast.Delete):
                for each in node.targets:
                    self.assertIsInstance(each, ast.Subscript, (name, node.lineno))

    def test_annotations_and_decorators(self):
        for name, node in self.nodes():
            if isinstance(node, (ast.FunctionDef, ast.ClassDef)):
                self.assertEqual(node.decorator_list, [], (name, node.name))
            if isinstance(node, ast.FunctionDef):
                self.assertIsNone(node.returns, (name, node.name))

    def test_sets_stand_in_sorted_or_len(self):
        for name, text in self.texts.items():
            around = with_parents(ast.parse(text))
            for node in around:
                self.assertNotEqual(called(node), "frozenset", name)
                self.assertNotIsInstance(node, ast.Set, name)
                if called(node) == "set" or isinstance(node, ast.SetComp):
                    outer = around[node]
                    while isinstance(outer, ast.BinOp):
                        outer = around[outer]
                    self.assertIn(called(outer), ("sorted", "len"), (name, node.lineno))
                    self.assertEqual(outer.keywords, [], (name, node.lineno))

    def test_views_are_iterated_at_once(self):
        taking = ["list", "tuple", "dict", "sorted", "sum", "any", "all", "enumerate", "zip"]
        for name, text in self.texts.items():
            around = with_parents(ast.parse(text))
            for node in around:
                method = node.func.attr if isinstance(node, ast.Call) and isinstance(node.func, ast.Attribute) else None
                if called(node) in VIEWS or method in ("items", "keys", "values"):
                    outer = around[node]
                    looped = isinstance(outer, (ast.For, ast.comprehension)) and outer.iter is node
                    self.assertTrue(looped or called(outer) in taking, (name, node.lineno))

    def test_module_level(self):
        for name, text in self.texts.items():
            rows = ast.parse(text).body
            self.assertIsInstance(rows[0].value, ast.Constant, name)
            bound = []
            for row in rows[1:]:
                self.assertIsInstance(row, (ast.ImportFrom, ast.FunctionDef, ast.ClassDef, ast.Assign), (name, row.lineno))
                if isinstance(row, ast.ImportFrom):
                    bound += [each.asname or each.name for each in row.names]
                elif isinstance(row, ast.Assign):
                    bound += [each.id for each in row.targets]
                else:
                    bound.append(row.name)
            self.assertEqual(len(bound), len(set(bound)), name)

    def test_local_names_are_no_imports(self):
        for name, text in self.texts.items():
            tree = ast.parse(text)
            imported = [each.name for row in tree.body if isinstance(row, ast.ImportFrom) for each in row.names]
            for node in ast.walk(tree):
                if isinstance(node, ast.arg):
                    self.assertNotIn(node.arg, imported, (name, node.lineno))
                if isinstance(node, ast.Name) and isinstance(node.ctx, ast.Store):
                    self.assertNotIn(node.id, imported, (name, node.lineno))

    def test_no_files_import_each_other(self):
        needs = {}
        for name, text in self.texts.items():
            rows = [row for row in ast.parse(text).body if isinstance(row, ast.ImportFrom)]
            needs[name] = {row.module.partition(".")[2] + ".py" for row in rows}
        while needs:
            free = [name for name in needs if not needs[name] & set(needs)]
            self.assertNotEqual(free, [], sorted(needs))
            for name in free:
                del needs[name]
