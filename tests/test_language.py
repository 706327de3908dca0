"""The rules for the package's code that can be read off its files, but those for its classes."""

import ast
import builtins
import pathlib
import re
import unittest

PACKAGE = pathlib.Path(__file__).parent.parent / "wiredorders"
FILES = sorted(PACKAGE.glob("*.py"))
TREES = [(path, ast.parse(path.read_text())) for path in FILES]

LIBRARY = {"heapq": {"heappush", "heappop"}, "math": {"gcd", "lcm", "isqrt", "comb", "perm", "factorial"}}
LIBRARY_NAMES = set.union(*LIBRARY.values())
BUILTINS = set(
    "len range enumerate zip min max sum abs sorted reversed int str bool list tuple dict isinstance ord repr any all"
    " divmod ValueError TypeError super property classmethod".split()
)
METHODS = set(
    "append clear copy count endswith extend find get index insert isdigit items join keys partition pop remove replace"
    " reverse setdefault split startswith strip update values zfill bit_length __init__".split()
)
OWN_METHODS = {"_call"}
CHANGING = set("append clear extend insert pop remove reverse setdefault update".split())
KEYWORDS = {"sorted": {"key", "reverse"}, "min": {"key", "default"}, "max": {"key", "default"}, "sum": {"start"}}
WORDS = re.compile(
    r"\b(type|typing|typing_extensions|enum|Enum|IntEnum|StrEnum|Flag|IntFlag|Generic|Protocol|ABC|ABCMeta|namedtuple"
    r"|NamedTuple|TypedDict|TYPE_CHECKING|abstractmethod|_wall|_WallAttr)\b"
    r"|dataclass|overload|contextmanager|\(type\)|Meta|metaclass="
)
BARRED = re.compile(
    r"(register|mro|elements|open|input|law|version_info|with_traceback|add_note|attrgetter|breakpoint|builtins|compile"
    r"|copyright|credits|delattr|dir|eval|exec|exit|gc|getattr|globals|hasattr|help|id|importlib|license|locals"
    r"|methodcaller|os|quit|setattr|super|type|vars|sys|(f|tb|co|gi|cr)_[a-z]+"
    r"|_(wall|pe_|dcw_|enum_|cm_|twin_re_|lay_|law_|stub_|sre|WallAttr).*"
    r"|_(cold|tuplegetter|outside|record|written_out|member_names)[0-9_]*)"
)
# All that the package is written with. Whatever else is in the language has no need of rules here.
NODES = (
    ast.Module, ast.FunctionDef, ast.ClassDef, ast.arguments, ast.arg, ast.ImportFrom, ast.alias, ast.Return, ast.Expr,
    ast.Assign, ast.If, ast.For, ast.While, ast.Break, ast.Raise, ast.Delete, ast.Try, ast.Yield, ast.Name, ast.Load,
    ast.Store, ast.Del, ast.Call, ast.keyword, ast.Constant, ast.Subscript, ast.Slice, ast.Attribute, ast.Starred,
    ast.BinOp, ast.Add, ast.Sub, ast.Mult, ast.FloorDiv, ast.Mod, ast.Pow, ast.BitAnd, ast.BitOr, ast.BitXor, ast.LShift,
    ast.RShift, ast.UnaryOp, ast.USub, ast.Not, ast.BoolOp, ast.And, ast.Or, ast.Compare, ast.Eq, ast.NotEq, ast.Lt, ast.LtE,
    ast.Gt, ast.GtE, ast.In, ast.NotIn, ast.Is, ast.IsNot, ast.IfExp, ast.Lambda, ast.Tuple, ast.List, ast.Dict,
    ast.ListComp, ast.DictComp, ast.comprehension, ast.JoinedStr, ast.FormattedValue,
)


def nodes(kind):
    """Return the list of all nodes of a kind, each with its place."""
    return [
        (node, f"{path.name}:{getattr(node, 'lineno', 0)}")
        for path, tree in TREES for node in ast.walk(tree) if isinstance(node, kind)
    ]


def name_of(node):
    return node.id if isinstance(node, ast.Name) else None


def parents():
    """Return the dict of the parents of all nodes."""
    return {child: node for _, tree in TREES for node in ast.walk(tree) for child in ast.iter_child_nodes(node)}


class Files(unittest.TestCase):
    def test_files(self):
        self.assertLessEqual(len(FILES), 100)
        for path in PACKAGE.iterdir():
            if path.name != "__pycache__":
                self.assertIn(path, FILES)
                self.assertRegex(path.name, r"^[a-z_][a-z0-9_]*\.py$")
                self.assertNotRegex(path.stem, r"^(law_.*|tests?|testing|test_.*|site|conftest|sitecustomize)$")
                self.assertNotIn(path.stem, dir(builtins))
        for path in FILES:
            text = path.read_text()
            self.assertRegex(text, r"\A[ -~\n]*\n\Z", path.name)
            rows = text.split("\n")
            self.assertLessEqual(len(rows), 400, path.name)
            self.assertLessEqual(max(map(len, rows)), 120, path.name)

    def test_imports(self):
        defined = {
            path.stem: {node.name for node in tree.body if isinstance(node, (ast.FunctionDef, ast.ClassDef))}
            | {node.targets[0].id for node in tree.body if isinstance(node, ast.Assign)}
            for path, tree in TREES
        }
        needs = {}
        for path, tree in TREES:
            needs[path.stem] = set()
            for node in ast.walk(tree):
                if isinstance(node, ast.ImportFrom):
                    self.check_import(path, tree, node, defined, needs)
        while needs:
            free = [name for name, wanted in needs.items() if not wanted & set(needs)]
            self.assertTrue(free, f"files that import from each other: {sorted(needs)}")
            needs = {name: wanted for name, wanted in needs.items() if name not in free}

    def check_import(self, path, tree, node, defined, needs):
        self.assertIn(node, tree.body)
        known = LIBRARY.get(node.module)
        if known is None:
            package, _, name = node.module.partition(".")
            self.assertEqual(package, "wiredorders", path.name)
            needs[path.stem].add(name)
            known = defined[name]
        for each in node.names:
            self.assertIsNone(each.asname)
            self.assertIn(each.name, known, path.name)
            used = [other for other in ast.walk(tree) if isinstance(other, ast.Name) and other.id == each.name]
            self.assertTrue(used, f"{path.name}: {each.name} is not used")

    def test_module_level(self):
        for path, tree in TREES:
            bound = []
            for node in tree.body:
                right = (ast.Expr, ast.ImportFrom, ast.FunctionDef, ast.ClassDef, ast.Assign)
                self.assertIsInstance(node, right, path.name)
                if isinstance(node, ast.Expr):
                    self.assertIs(node, tree.body[0], path.name)
                    self.assertIsInstance(node.value, ast.Constant)
                if isinstance(node, ast.Assign):
                    self.check_plain(path, tree, node)
                    bound.append(node.targets[0].id)
                if isinstance(node, ast.ImportFrom):
                    bound.extend(each.name for each in node.names)
                if isinstance(node, (ast.FunctionDef, ast.ClassDef)):
                    bound.append(node.name)
            self.assertEqual(len(bound), len(set(bound)), path.name)

    def check_plain(self, path, tree, node):
        """A plain value without lists and dicts inside, or a dict of functions that are defined above it."""
        self.assertEqual(len(node.targets), 1)
        if isinstance(node.value, ast.Dict) and any(isinstance(each, ast.Name) for each in node.value.values):
            above = {other.name for other in tree.body[:tree.body.index(node)] if isinstance(other, ast.FunctionDef)}
            for each in node.value.values:
                self.assertIn(each.id, above, path.name)
            for each in node.value.keys:
                ast.literal_eval(each)
        else:
            told = ast.literal_eval(node.value)
            parts = list(told.values()) if isinstance(told, dict) else told if isinstance(told, (list, tuple)) else ()
            for part in parts:
                self.assertNotIsInstance(part, (list, dict, set), path.name)

    def test_words(self):
        for path in FILES:
            self.assertIsNone(WORDS.search(path.read_text()), path.name)


class Code(unittest.TestCase):
    def test_nodes(self):
        for node, place in nodes(ast.AST):
            self.assertIsInstance(node, NODES, place)

    def test_functions(self):
        for node, place in nodes(ast.FunctionDef):
            self.assertLessEqual(node.end_lineno - node.lineno + 1, 40, place)
            self.assertTrue(ast.get_docstring(node) or node.name in ("__init__", "__iter__"), place)
            self.assertIsNone(node.returns, place)
        for node, place in nodes(ast.arguments):
            self.assertFalse(node.vararg or node.kwarg or node.kwonlyargs or node.posonlyargs or node.defaults, place)
            self.assertEqual([each for each in node.args if each.annotation], [], place)

    def test_constants(self):
        for node, place in nodes(ast.Constant):
            self.assertNotIsInstance(node.value, (float, complex, bytes), place)
            if isinstance(node.value, str):
                self.assertNotIn("%", node.value, place)
                self.assertNotRegex(node.value, r"\._{1,2}\Z|\A__.*__\Z", place)
        for path in FILES:
            self.assertEqual(set(re.findall(r"\\.", path.read_text())) - {"\\n"}, set(), path.name)
        for node, place in nodes(ast.BinOp):
            if isinstance(node.op, ast.Pow):
                self.assertIsInstance(node.right, ast.Constant, place)
                self.assertIn(node.right.value, range(65), place)

    def test_calls(self):
        for node, place in nodes(ast.Call):
            self.assertIsInstance(node.func, (ast.Name, ast.Attribute), place)
            if isinstance(node.func, ast.Attribute):
                known = METHODS | OWN_METHODS
                self.assertIn(node.func.attr, known, place)
                self.assertEqual(node.keywords, [], place)
            for keyword in node.keywords:
                self.assertIn(keyword.arg, KEYWORDS[node.func.id], place)
            if name_of(node.func) == "isinstance":
                kinds = node.args[1].elts if isinstance(node.args[1], ast.Tuple) else [node.args[1]]
                for kind in kinds:
                    self.assertIsInstance(kind, ast.Name, place)

    def test_library_names_are_called(self):
        above = parents()
        for node, place in nodes(ast.Name):
            if node.id in LIBRARY_NAMES:
                self.assertIsInstance(above[node], ast.Call, place)
                self.assertIs(above[node].func, node, place)

    def test_iterated_at_once(self):
        above = parents()
        takers = {"list", "tuple", "dict", "sorted", "sum", "any", "all", "enumerate", "zip", "min", "max"}
        for node, place in nodes(ast.Call):
            if name_of(node.func) in ("zip", "enumerate", "reversed"):
                parent = above[node]
                if isinstance(parent, ast.Call):
                    self.assertIn(name_of(parent.func), takers, place)
                    self.assertIs(parent.args[0], node, place)
                else:
                    self.assertIsInstance(parent, (ast.For, ast.comprehension), place)
                    self.assertIs(parent.iter, node, place)
            views = isinstance(node.func, ast.Attribute) and node.func.attr in ("items", "keys", "values")
            if name_of(node.func) == "range" or views:
                self.check_kept(node, above[node], takers | {"reversed", "len"}, place)
            if name_of(node.func) == "reversed":
                self.assertIn(name_of(getattr(node.args[0], "func", None)), ("range", "list", "tuple", "sorted"), place)

    def check_kept(self, node, parent, takers, place):
        """A range or a view is iterated at once, or kept in a local variable."""
        if isinstance(parent, ast.Call):
            self.assertIn(name_of(parent.func), takers, place)
            self.assertIs(parent.args[0], node, place)
        elif isinstance(parent, ast.Assign):
            self.assertIsInstance(parent.targets[0], ast.Name, place)
        else:
            self.assertIsInstance(parent, (ast.For, ast.comprehension), place)
            self.assertIs(parent.iter, node, place)

    def test_loops_change_nothing_that_they_go_over(self):
        for node, place in nodes(ast.For):
            gone_over = {each.id for each in ast.walk(node.iter) if isinstance(each, ast.Name)} - BUILTINS
            for inner in [each for row in node.body for each in ast.walk(row)]:
                if isinstance(inner, ast.Call) and isinstance(inner.func, ast.Attribute) and inner.func.attr in CHANGING:
                    self.assertNotIn(name_of(inner.func.value), gone_over, place)
                if isinstance(inner, ast.Subscript) and isinstance(inner.ctx, (ast.Store, ast.Del)):
                    if name_of(inner.value) in gone_over:
                        self.assertTrue(self.is_count_alone(node.iter, inner.value.id), place)

    def is_count_alone(self, gone, name):
        """Tell whether a loop goes only over numbers that come of a list's length, or over what its items were."""
        used = [each for each in ast.walk(gone) if name_of(each) == name]
        above = {child: node for node in ast.walk(gone) for child in ast.iter_child_nodes(node)}
        return all(name_of(getattr(above.get(each), "func", None)) in ("len", "list", "max") or isinstance(
            above.get(each), (ast.Attribute, ast.Subscript)) for each in used)

    def test_is(self):
        for node, place in nodes(ast.Compare):
            for at, each in enumerate(node.ops):
                if isinstance(each, (ast.Is, ast.IsNot)):
                    self.assertIsInstance(node.comparators[at], ast.Constant, place)
                    self.assertIn(node.comparators[at].value, (None, True, False), place)

    def test_names(self):
        # Examples that are run leave their last value there as _.
        every = set(dir(builtins)) - {"_"}
        for path, tree in TREES:
            bound = {each.name for node in tree.body if isinstance(node, ast.ImportFrom) for each in node.names}
            bound |= {node.name for node in tree.body if isinstance(node, ast.ClassDef)}
            for node in ast.walk(tree):
                place = f"{path.name}:{getattr(node, 'lineno', 0)}"
                if isinstance(node, ast.FunctionDef):
                    self.check_name(node.name, every | bound, place)
                if isinstance(node, ast.ClassDef):
                    self.check_name(node.name, every, place)
                if isinstance(node, ast.arg):
                    self.check_name(node.arg, every | bound, place)
                if isinstance(node, ast.Name):
                    self.assertRegex(node.id, r"^(_|_?[a-zA-Z][a-zA-Z0-9_]*)$", place)
                    if isinstance(node.ctx, ast.Store):
                        self.check_name(node.id, every | bound, place)
                    elif node.id in every:
                        self.assertIn(node.id, BUILTINS, place)

    def check_name(self, name, others, place):
        self.assertNotIn(name, others, place)
        self.assertIsNone(BARRED.fullmatch(name), place)

    def test_no_state_at_module_level(self):
        for path, tree in TREES:
            held = {
                node.targets[0].id for node in tree.body
                if isinstance(node, ast.Assign) and isinstance(node.value, (ast.Dict, ast.List))
            }
            above = {child: node for node in ast.walk(tree) for child in ast.iter_child_nodes(node)}
            for node in ast.walk(tree):
                if isinstance(node, ast.Name) and node.id in held and isinstance(node.ctx, ast.Load):
                    self.assertTrue(self.is_only_read(node, above[node]), f"{path.name}:{node.lineno}")

    def is_only_read(self, node, parent):
        if isinstance(parent, ast.Subscript):
            return parent.value is node and isinstance(parent.ctx, ast.Load)
        if isinstance(parent, ast.Attribute):
            return parent.attr == "get"
        return isinstance(parent, ast.Compare) and node in parent.comparators


if __name__ == "__main__":
    unittest.main()
