"""The form of the package's own files, as far as it can be read off them (the rules' numbers stand beside)."""

import ast
import builtins
import pathlib
import re
import unittest

PACKAGE = pathlib.Path(__file__).resolve().parent.parent / "scorebook"

ALLOWED_BUILTINS = set(
    "len range enumerate zip min max sum abs sorted reversed int str bool list tuple dict set frozenset isinstance "
    "ord repr any all divmod Exception ValueError TypeError KeyError IndexError LookupError ZeroDivisionError "
    "ArithmeticError OverflowError RuntimeError NotImplementedError AttributeError StopIteration".split())
ALLOWED_METHODS = set(
    "append clear copy count endswith extend find get index insert isalnum isalpha isdigit islower isspace isupper "
    "items join keys ljust lower lstrip partition pop remove replace reverse rfind rjust rpartition rsplit rstrip "
    "setdefault split splitlines startswith strip update upper values zfill bit_length".split())
BANNED_WORDS = set(
    "type typing typing_extensions enum Enum IntEnum StrEnum Flag IntFlag Generic Protocol ABC ABCMeta namedtuple "
    "NamedTuple TypedDict TYPE_CHECKING abstractmethod".split())
BANNED_NAMES = set("register mro elements open input version_info with_traceback add_note format format_map".split())
BANNED_NODES = (
    ast.With, ast.Match, ast.Delete, ast.Global, ast.Nonlocal, ast.Assert, ast.Yield, ast.YieldFrom, ast.Await,
    ast.AsyncFunctionDef, ast.AsyncFor, ast.AsyncWith, ast.SetComp, ast.DictComp, ast.GeneratorExp, ast.NamedExpr,
    ast.Starred, ast.Div, ast.AnnAssign, ast.Import)
OWN_VALUES = set().union(*(dir(kind) for kind in (str, int, list, dict, set, bytes, tuple)))


def names_bound(tree):
    for node in ast.walk(tree):
        if isinstance(node, ast.Name) and isinstance(node.ctx, ast.Store):
            yield node.id
        elif isinstance(node, ast.arg):
            yield node.arg
        elif isinstance(node, (ast.FunctionDef, ast.ClassDef)):
            yield node.name


class Form(unittest.TestCase):
    def setUp(self):
        self.files = sorted(path for path in PACKAGE.rglob("*") if "__pycache__" not in path.parts and path.is_file())
        self.texts = {path: path.read_text(encoding="ascii") for path in self.files}
        self.trees = {path: ast.parse(text) for path, text in self.texts.items()}

    def test_files(self):  # L1, L14
        for path in self.files:
            self.assertRegex(path.name, r"^[a-z0-9_]+\.py$")
            self.assertFalse(path.stem in dir(builtins), path)
        self.assertIn(PACKAGE / "__init__.py", self.files)

    def test_signs_and_sizes(self):  # L10, L14
        for path, text in self.texts.items():
            rows = text.split("\n")
            self.assertLessEqual(len(rows), 400, path)
            for row in rows:
                self.assertLessEqual(len(row), 120, path)
                self.assertRegex(row, r"^[ -~]*$", path)
        for tree in self.trees.values():
            for node in ast.walk(tree):
                if isinstance(node, ast.FunctionDef):
                    self.assertLessEqual(node.end_lineno - node.lineno + 1, 40, node.name)

    def test_words(self):  # L17, L27
        for path, text in self.texts.items():
            self.assertEqual(BANNED_WORDS & set(re.findall(r"\w+", text)), set(), path)
            self.assertIsNone(re.search("dataclass|overload|contextmanager", text), path)

    def test_statements(self):  # L4, L5, L6, L7
        for path, tree in self.trees.items():
            for node in ast.walk(tree):
                self.assertNotIsInstance(node, BANNED_NODES, path)
                if isinstance(node, ast.Assign):
                    self.assertEqual(len(node.targets), 1, path)
                    self.assertNotIsInstance(node.targets[0], (ast.Tuple, ast.List), path)
                if isinstance(node, (ast.For, ast.While)):
                    self.assertEqual(node.orelse, [], path)
                if isinstance(node, (ast.FunctionDef, ast.ClassDef)):
                    self.assertEqual(node.decorator_list, [], path)
                if isinstance(node, ast.ClassDef):
                    self.assertLessEqual(len(node.bases), 1, path)
                if isinstance(node, ast.arguments):
                    self.assertFalse(node.vararg or node.kwarg or node.kwonlyargs or node.posonlyargs, path)
                if isinstance(node, ast.Constant):
                    self.assertNotIsInstance(node.value, (float, bytes, complex), path)

    def test_imports(self):  # L2, L16
        drawn = {path.stem: set() for path in self.files}
        for path, tree in self.trees.items():
            for node in ast.walk(tree):
                if isinstance(node, ast.ImportFrom):
                    self.assertIn(node, tree.body)
                    self.assertEqual(node.level, 0)
                    self.assertRegex(node.module, r"^scorebook\.\w+$")
                    source = node.module.split(".")[1]
                    drawn[path.stem].add(source)
                    for alias in node.names:
                        self.assertIn(alias.name, self.bound_at_top(self.trees[PACKAGE / f"{source}.py"]))
        self.assertEqual(drawn["__init__"], set())
        while drawn:
            free = [stem for stem, sources in drawn.items() if not sources & set(drawn)]
            self.assertNotEqual(free, [], "files that draw from one another")
            drawn = {stem: sources for stem, sources in drawn.items() if stem not in free}

    def bound_at_top(self, tree):
        found = [node.name for node in tree.body if isinstance(node, (ast.FunctionDef, ast.ClassDef))]
        return found + [node.targets[0].id for node in tree.body if isinstance(node, ast.Assign)]

    def test_top_of_a_file(self):  # L3, L15
        allowed = (ast.Expr, ast.ImportFrom, ast.FunctionDef, ast.ClassDef, ast.Assign)
        for path, tree in self.trees.items():
            bound = self.bound_at_top(tree)
            self.assertEqual(len(bound), len(set(bound)), path)
            for node in tree.body:
                self.assertIsInstance(node, allowed, path)
                if isinstance(node, ast.Expr):
                    self.assertIsInstance(node.value, ast.Constant, path)

    def test_names(self):  # L8, L12, L15, L17
        for path, tree in self.trees.items():
            imports = [alias.name for node in tree.body if isinstance(node, ast.ImportFrom) for alias in node.names]
            for name in names_bound(tree):
                if name != "__init__":
                    self.assertRegex(name, r"^[A-Za-z][A-Za-z0-9_]*$", path)
                self.assertNotIn(name, dir(builtins), path)
                self.assertNotIn(name, imports, path)
                self.assertNotIn(name, BANNED_NAMES, path)
            known = set(names_bound(tree)) | set(imports) | ALLOWED_BUILTINS
            for node in ast.walk(tree):
                if isinstance(node, ast.Name):
                    self.assertIn(node.id, known, path)

    def test_comparisons_and_texts(self):  # L13, L20, L27
        for path, tree in self.trees.items():
            for node in ast.walk(tree):
                self.assertNotIsInstance(node, ast.Set, path)
                if isinstance(node, ast.Compare) and any(isinstance(op, (ast.Is, ast.IsNot)) for op in node.ops):
                    self.assertIsInstance(node.comparators[0], ast.Constant, path)
                    self.assertIn(node.comparators[0].value, (None, True, False), path)
                if isinstance(node, ast.Constant) and isinstance(node.value, str):
                    self.assertNotIn("%", node.value, path)
                self.assertNotIsInstance(node, (ast.Try, ast.JoinedStr, ast.Pow), path)

    def test_walked_at_once(self):  # L22, L23
        for path, tree in self.trees.items():
            walked = [node.iter for node in ast.walk(tree) if isinstance(node, (ast.For, ast.comprehension))]
            for node in ast.walk(tree):
                if isinstance(node, ast.Call) and isinstance(node.func, ast.Name):
                    if node.func.id in ("range", "zip", "enumerate", "reversed"):
                        self.assertIn(node, walked, path)
                if isinstance(node, ast.Call):
                    self.assertEqual(node.keywords, [], path)

    def test_methods_and_values(self):  # L18, L25, L26
        methods = set()
        values = set()
        used = set()
        for tree in self.trees.values():
            for node in ast.walk(tree):
                if isinstance(node, ast.ClassDef):
                    methods.update(part.name for part in node.body if isinstance(part, ast.FunctionDef))
                if isinstance(node, ast.Attribute):
                    (values if isinstance(node.ctx, ast.Store) else used).add(node.attr)
        self.assertEqual(methods & values, set())
        self.assertEqual(((methods | values) - {"__init__"}) & OWN_VALUES, set())
        self.assertEqual((methods | values) & BANNED_NAMES, set())
        self.assertEqual(used - methods - values - ALLOWED_METHODS, set())
