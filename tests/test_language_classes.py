"""The rules for the package's classes, and for what their operators and properties call, that can be read off the code."""

import ast
import unittest

from tests.test_language import CHANGING, TREES, name_of, nodes, parents

BINARY = {"__add__", "__iadd__", "__xor__", "__contains__", "__getitem__", "__eq__"}
UNARY = {"__invert__", "__bool__", "__len__", "__str__", "__iter__"}
IN_PLACE = {"__iadd__"}
CLASSES = {node.name: node for _, tree in TREES for node in tree.body if isinstance(node, ast.ClassDef)}
PLAIN = {name: node for name, node in CLASSES.items() if not node.bases}


def methods(owner):
    return [node for node in owner.body if isinstance(node, ast.FunctionDef)]


def decorators(node):
    return [each.id for each in node.decorator_list]


def is_property(node):
    return decorators(node) == ["property"]


def functions_by_file():
    """Return the dict of the functions that each file's names mean, imported ones too."""
    own = {path.stem: {node.name: (path.stem, node) for node in tree.body if isinstance(node, ast.FunctionDef)} for path, tree in TREES}
    known = {}
    for path, tree in TREES:
        known[path.stem] = dict(own[path.stem])
        for node in tree.body:
            if isinstance(node, ast.ImportFrom) and node.module.startswith("wiredorders."):
                source = own[node.module.partition(".")[2]]
                known[path.stem].update({each.name: source[each.name] for each in node.names if each.name in source})
    return known


def called_by_operators():
    """Return the list of all operators and properties, and of all functions that these call, each with its file."""
    known = functions_by_file()
    left = [
        (path.stem, method) for path, tree in TREES for owner in tree.body if isinstance(owner, ast.ClassDef)
        for method in methods(owner) if is_property(method) or method.name in (BINARY | UNARY) - IN_PLACE
    ]
    found = []
    while left:
        file, node = left.pop()
        if (file, node) not in found:
            found.append((file, node))
            names = [name_of(each.func) for each in ast.walk(node) if isinstance(each, ast.Call)]
            left.extend(known[file][name] for name in names if name in known[file])
    return found


def made_lists(function):
    """Return the names of the variables that are only assigned lists which the function makes itself."""
    made, others = set(), {each.arg for each in function.args.args}
    for node in ast.walk(function):
        if isinstance(node, ast.Assign):
            own = isinstance(node.value, (ast.List, ast.ListComp))
            own = own or isinstance(node.value, ast.Call) and name_of(node.value.func) in ("list", "sorted", "dict")
            for target in node.targets:
                (made if own and isinstance(target, ast.Name) else others).update(
                    each.id for each in ast.walk(target) if isinstance(each, ast.Name) and isinstance(each.ctx, ast.Store)
                )
        if isinstance(node, (ast.For, ast.comprehension)):
            others.update(each.id for each in ast.walk(node.target) if isinstance(each, ast.Name))
    return made - others


class Classes(unittest.TestCase):
    def test_bases(self):
        for name, node in CLASSES.items():
            self.assertEqual(node.decorator_list, [], name)
            self.assertIn([base.id for base in node.bases], ([], ["OrderError"], ["ValueError"]), name)
        self.assertEqual(sorted(PLAIN), ["Bench", "Spanned"])

    def test_bodies(self):
        for name, owner in CLASSES.items():
            for node in owner.body[1:] if ast.get_docstring(owner) else owner.body:
                if isinstance(node, ast.Assign):
                    self.assertIn(name, PLAIN)
                    self.assertRegex(node.targets[0].id, "^[A-Z]+$")
                    ast.literal_eval(node.value)
                else:
                    self.assertIsInstance(node, ast.FunctionDef, name)
            names = [node.name for node in methods(owner)]
            self.assertEqual(len(names), len(set(names)), name)

    def test_methods(self):
        for name, owner in PLAIN.items():
            for node in methods(owner):
                count = len(node.args.args)
                self.assertIn(decorators(node), ([], ["property"], ["classmethod"]), node.name)
                if node.name.startswith("__"):
                    self.assertIn(node.name, BINARY | UNARY | {"__init__", "__call__"})
                    self.assertEqual(count, 2 if node.name in BINARY else 1 if node.name in UNARY else count)
                if is_property(node):
                    self.assertEqual(count, 1)
                self.assertEqual(node.args.args[0].arg, "cls" if decorators(node) == ["classmethod"] else "self", name)

    def test_no_decorators_elsewhere(self):
        inside = {node for owner in CLASSES.values() for node in methods(owner)}
        for node, place in nodes(ast.FunctionDef):
            if node not in inside:
                self.assertEqual(node.decorator_list, [], place)
                self.assertFalse(node.name.startswith("__"), place)

    def test_attributes(self):
        builtin = {each for kind in (str, int, list, dict, tuple, set, bytes) for each in dir(kind)}
        stored = {node.attr for node, _ in nodes(ast.Attribute) if isinstance(node.ctx, ast.Store)}
        told = {node.name for owner in CLASSES.values() for node in methods(owner) if not node.name.startswith("__")}
        self.assertEqual((stored | told) & builtin, set())
        self.assertEqual(stored & told, set())
        for node, place in nodes(ast.Attribute):
            if isinstance(node.ctx, ast.Store):
                self.assertIn(name_of(node.value), ("self",), place)

    def test_classes_are_called_or_named(self):
        above = parents()
        for node, place in nodes(ast.Name):
            if node.id in CLASSES:
                parent = above[node]
                called = isinstance(parent, ast.Call) and parent.func is node
                asked = isinstance(parent, ast.Call) and name_of(parent.func) == "isinstance" and parent.args[1] is node
                self.assertTrue(called or asked or isinstance(parent, ast.ClassDef), place)

    def test_errors_are_made_where_they_are_raised(self):
        errors = set(CLASSES) - set(PLAIN) | {"TypeError"}
        for node, place in nodes(ast.Raise):
            self.assertIsNone(node.cause, place)
            self.assertIsInstance(node.exc, ast.Call, place)
            self.assertIn(name_of(node.exc.func), errors, place)

    def test_forms(self):
        for name, owner in PLAIN.items():
            last = {node.name: node.body[-1] for node in methods(owner)}
            told = {node.name for node in methods(owner)}
            self.assertFalse({"keys", "__hash__", "__ne__"} & told)
            self.assertEqual([type(node) for node in self.body_of(owner, "__iter__")], [ast.Raise], name)
            self.assertEqual(name_of(last["__len__"].value.func), "len", name)
            self.assertEqual(name_of(last["__bool__"].value.func), "bool", name)
            if "__str__" in last:
                self.assertIsInstance(last["__str__"].value, ast.JoinedStr)
            for node in methods(owner):
                if node.name == "__init__":
                    self.assertEqual([each for each in ast.walk(node) if isinstance(each, ast.Return)], [])

    def body_of(self, owner, name):
        return [node.body for node in methods(owner) if node.name == name][0]

    def test_generator(self):
        found = [node for node, _ in nodes(ast.FunctionDef) if any(isinstance(each, ast.Yield) for each in ast.walk(node))]
        self.assertEqual([node.name for node in found], ["lines"])
        self.assertEqual(len([node for node, _ in nodes(ast.FunctionDef) if node.name == "lines"]), 1)
        self.assertEqual(found[0].decorator_list, [])
        above = parents()
        for node, place in nodes(ast.Yield):
            self.assertIsInstance(above[node], ast.Expr, place)
            self.assertIsInstance(above[above[node]], (ast.For, ast.If, ast.FunctionDef), place)
        for node, place in nodes(ast.Call):
            self.assertNotEqual(name_of(node.func), "lines", place)

    def test_finally(self):
        for node, place in nodes(ast.Try):
            self.assertEqual((node.handlers, node.orelse), ([], []), place)
            self.assertEqual(len(node.finalbody), 1, place)
            asked = node.finalbody[0]
            self.assertIsInstance(asked, ast.If, place)
            self.assertIsInstance(asked.test.left, ast.Name, place)
            self.assertIsInstance(asked.test.ops[0], ast.IsNot, place)
            for row in asked.body:
                self.assertIsInstance(row, ast.Assign, place)
                for each in ast.walk(row):
                    self.assertIsInstance(each, (
                        ast.Assign, ast.Tuple, ast.Attribute, ast.Name, ast.Load, ast.Store), place)


class Operators(unittest.TestCase):
    def test_change_nothing(self):
        found = called_by_operators()
        names = {node.name for _, node in found}
        self.assertLessEqual({"order_in", "span_in", "heights_in", "moved_by", "shares_text_in", "is_least_in"}, names)
        for file, function in found:
            made = made_lists(function)
            for node in ast.walk(function):
                place = f"{file}: {function.name}: {getattr(node, 'lineno', 0)}"
                if isinstance(node, (ast.Attribute, ast.Subscript)) and isinstance(node.ctx, (ast.Store, ast.Del)):
                    self.assertIsInstance(node, ast.Subscript, place)
                    self.assertIn(name_of(node.value), made, place)
                if isinstance(node, ast.Call) and isinstance(node.func, ast.Attribute) and node.func.attr in CHANGING:
                    self.assertIn(name_of(node.func.value), made, place)

    def test_call_nothing_that_they_are_passed(self):
        for file, function in called_by_operators():
            held = {each.arg for each in function.args.args}
            held |= {each.id for each in ast.walk(function) if isinstance(each, ast.Name) and isinstance(each.ctx, ast.Store)}
            for node in ast.walk(function):
                if isinstance(node, ast.Call):
                    self.assertNotIn(name_of(node.func), held, f"{file}: {function.name}")


if __name__ == "__main__":
    unittest.main()
