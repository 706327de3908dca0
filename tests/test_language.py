"""The rules for the package's code that can be read off its files."""

import ast
import builtins
import pathlib
import re
import unittest

PACKAGE = pathlib.Path(__file__).parent.parent / "wiredorders"
FILES = sorted(PACKAGE.glob("*.py"))

LIBRARY = {"heapq": {"heappush", "heappop"}, "math": {"gcd", "lcm", "isqrt", "comb", "perm", "factorial"}}
BUILTINS = set(
    "len range enumerate zip min max sum abs sorted reversed int str bool list tuple dict set isinstance ord repr any"
    " all divmod ValueError super property classmethod".split()
)
METHODS = set(
    "append clear copy count endswith extend find get index insert isdigit items join keys pop remove replace reverse"
    " setdefault split startswith strip update values bit_length __init__".split()
)
WORDS = re.compile(
    r"\b(type|typing|enum|Enum|Flag|Generic|Protocol|ABC|namedtuple|NamedTuple|TypedDict|_wall|_WallAttr)\b"
    r"|dataclass|overload|contextmanager|\(type\)|Meta|metaclass="
)
NODES = (
    ast.Global, ast.AsyncFunctionDef, ast.AsyncFor, ast.AsyncWith, ast.Await, ast.Set, ast.SetComp, ast.GeneratorExp,
    ast.Div, ast.AugAssign, ast.Try, ast.AnnAssign, ast.Nonlocal, ast.With, ast.Match,
)


def trees():
    return [(path, ast.parse(path.read_text())) for path in FILES]


class Language(unittest.TestCase):
    def test_files(self):
        self.assertLessEqual(len(FILES), 100)
        for path in PACKAGE.iterdir():
            if path.name != "__pycache__":
                self.assertIn(path, FILES)
                self.assertRegex(path.name, r"^[a-z_][a-z0-9_]*\.py$")
        for path in FILES:
            text = path.read_text()
            self.assertRegex(text, r"\A[ -~\n]*\n\Z", path.name)
            rows = text.split("\n")
            self.assertLessEqual(len(rows), 400, path.name)
            self.assertLessEqual(max(map(len, rows)), 120, path.name)

    def test_functions_are_small(self):
        for path, tree in trees():
            for node in ast.walk(tree):
                if isinstance(node, ast.FunctionDef):
                    self.assertLessEqual(node.end_lineno - node.lineno + 1, 40, f"{path.name}: {node.name}")
                    self.assertIsNotNone(ast.get_docstring(node) or node.name == "__init__", node.name)

    def test_imports(self):
        defined = {
            path.stem: {node.name for node in tree.body if isinstance(node, (ast.FunctionDef, ast.ClassDef))}
            | {node.targets[0].id for node in tree.body if isinstance(node, ast.Assign)}
            for path, tree in trees()
        }
        needs = {}
        for path, tree in trees():
            needs[path.stem] = set()
            for node in ast.walk(tree):
                self.assertNotIsInstance(node, ast.Import, path.name)
                if isinstance(node, ast.ImportFrom):
                    self.check_import(path, tree, node, defined, needs)
        while needs:
            free = [name for name, wanted in needs.items() if not wanted & set(needs)]
            self.assertTrue(free, f"files that import from each other: {sorted(needs)}")
            needs = {name: wanted for name, wanted in needs.items() if name not in free}

    def check_import(self, path, tree, node, defined, needs):
        self.assertIn(node, tree.body)
        known = LIBRARY.get(node.module)
        if known is None:
            package, _, name = node.module.partition(".")
            self.assertEqual(package, "wiredorders", path.name)
            needs[path.stem].add(name)
            known = defined[name]
        for each in node.names:
            self.assertIsNone(each.asname)
            self.assertIn(each.name, known, path.name)
            used = [other for other in ast.walk(tree) if isinstance(other, ast.Name) and other.id == each.name]
            self.assertTrue(used, f"{path.name}: {each.name} is not used")

    def test_module_level(self):
        for path, tree in trees():
            for node in tree.body:
                right = (ast.Expr, ast.ImportFrom, ast.FunctionDef, ast.ClassDef, ast.Assign)
                self.assertIsInstance(node, right, path.name)
                if isinstance(node, ast.Expr):
                    self.assertIs(node, tree.body[0], path.name)
                    self.assertIsInstance(node.value, ast.Constant)
                if isinstance(node, ast.Assign):
                    self.check_plain(path, tree, node)

    def check_plain(self, path, tree, node):
        """A plain value, or a dict of functions that are defined above it."""
        self.assertEqual(len(node.targets), 1)
        if isinstance(node.value, ast.Dict) and any(isinstance(each, ast.Name) for each in node.value.values):
            above = {other.name for other in tree.body[:tree.body.index(node)] if isinstance(other, ast.FunctionDef)}
            for each in node.value.values:
                self.assertIn(each.id, above, path.name)
            for each in node.value.keys:
                ast.literal_eval(each)
        else:
            ast.literal_eval(node.value)

    def test_nodes(self):
        for path, tree in trees():
            for node in ast.walk(tree):
                place = f"{path.name}:{getattr(node, 'lineno', 0)}"
                self.assertNotIsInstance(node, NODES, place)
                if isinstance(node, (ast.FunctionDef, ast.ClassDef)):
                    self.assertEqual(node.decorator_list, [], place)
                if isinstance(node, ast.Constant):
                    self.assertNotIsInstance(node.value, (float, complex, bytes), place)
                    self.assertNotIn("%", str(node.value), place)
                if isinstance(node, ast.Call) and isinstance(node.func, ast.Attribute):
                    self.assertIn(node.func.attr, METHODS, place)

    def test_names(self):
        # Examples that are run leave their last value there as _.
        every = set(dir(builtins)) - {"_"}
        for path, tree in trees():
            bound = {each.name for node in tree.body if isinstance(node, ast.ImportFrom) for each in node.names}
            for node in ast.walk(tree):
                place = f"{path.name}:{getattr(node, 'lineno', 0)}"
                if isinstance(node, (ast.FunctionDef, ast.ClassDef)):
                    self.assertNotIn(node.name, every | bound, place)
                if isinstance(node, ast.arg):
                    self.assertNotIn(node.arg, every | bound, place)
                if isinstance(node, ast.Name):
                    self.assertRegex(node.id, r"^(_|_?[a-zA-Z][a-zA-Z0-9_]*)$", place)
                    if isinstance(node.ctx, ast.Store):
                        self.assertNotIn(node.id, every | bound, place)
                    elif node.id in every:
                        self.assertIn(node.id, BUILTINS, place)

    def test_words(self):
        for path in FILES:
            self.assertIsNone(WORDS.search(path.read_text()), path.name)
