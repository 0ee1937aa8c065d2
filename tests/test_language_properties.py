"""Properties of the package: they, and all that they call, change only what they created, and call nothing passed."""

import ast
import builtins
import unittest

from test_language import trees

MODIFIERS = (
    "append clear extend insert pop remove reverse setdefault update sort add discard appendleft popleft".split()
)
MAKERS = ("list", "dict", "set", "sorted")


def functions():
    """All functions and methods of the package by their names."""
    found = {}
    for tree in trees().values():
        for node in ast.walk(tree):
            if isinstance(node, ast.FunctionDef):
                found.setdefault(node.name, []).append(node)
    return found


def classes():
    return [node.name for tree in trees().values() for node in tree.body if isinstance(node, ast.ClassDef)]


def is_property(node):
    return any(ast.unparse(decorator) == "property" for decorator in node.decorator_list)


def bound_names(node):
    """The names that a function binds: its parameters and what it assigns."""
    names = [argument.arg for argument in ast.walk(node) if isinstance(argument, ast.arg)]
    names += [name.id for name in ast.walk(node) if isinstance(name, ast.Name) and not isinstance(name.ctx, ast.Load)]
    return names


def makes_new(value):
    """Whether an expression surely gives a list, dict or set of its own."""
    if isinstance(value, (ast.List, ast.Dict, ast.Set, ast.ListComp, ast.DictComp, ast.SetComp)):
        return True
    if isinstance(value, ast.BinOp) and isinstance(value.op, (ast.Add, ast.Mult)):
        return makes_new(value.left) or makes_new(value.right)
    return isinstance(value, ast.Call) and isinstance(value.func, ast.Name) and value.func.id in MAKERS


def created(node):
    """The local names that are only ever assigned something new."""
    values = {}
    taken = {argument.arg for argument in ast.walk(node) if isinstance(argument, ast.arg)}
    single = [each for each in ast.walk(node) if isinstance(each, ast.Assign) and isinstance(each.targets[0], ast.Name)]
    for each in single:
        values.setdefault(each.targets[0].id, []).append(each.value)
    stored = [name.id for name in ast.walk(node) if isinstance(name, ast.Name) and isinstance(name.ctx, ast.Store)]
    return [name for name, given in values.items()
            if name not in taken and stored.count(name) == len(given) and all(makes_new(value) for value in given)]


def changes_in(node):
    """What a function changes, as expressions: what is before the dot, before the bracket, or a list that is added to."""
    for each in ast.walk(node):
        if isinstance(each, ast.Call) and isinstance(each.func, ast.Attribute) and each.func.attr in MODIFIERS:
            yield each.func.value
        elif isinstance(each, (ast.Subscript, ast.Attribute)) and not isinstance(each.ctx, ast.Load):
            yield each.value if isinstance(each, ast.Subscript) else each


def is_own(expression, names):
    """Whether what is changed was created: a name, or an item that setdefault has put into one."""
    if isinstance(expression, ast.Call) and isinstance(expression.func, ast.Attribute):
        return (expression.func.attr == "setdefault" and makes_new(expression.args[1])
                and is_own(expression.func.value, names))
    return isinstance(expression, ast.Name) and expression.id in names


def adds_only_numbers(node, each):
    """Whether a name that is added to is only ever assigned literal integers."""
    given = [other.value for other in ast.walk(node)
             if isinstance(other, ast.Assign) and ast.unparse(other.targets[0]) == ast.unparse(each.target)]
    return bool(given) and all(isinstance(value, ast.Constant) and isinstance(value.value, int) for value in given)


def faults_of(node):
    """What a property may not do, where this function does it."""
    names = created(node)
    faults = [ast.unparse(expression) for expression in changes_in(node) if not is_own(expression, names)]
    bound = bound_names(node)
    for each in ast.walk(node):
        if isinstance(each, ast.Call) and isinstance(each.func, ast.Name) and each.func.id in bound:
            faults.append(ast.unparse(each))
        elif isinstance(each, ast.Call) and not isinstance(each.func, (ast.Name, ast.Attribute)):
            faults.append(ast.unparse(each))
        elif isinstance(each, ast.AugAssign) and not adds_only_numbers(node, each):
            faults.append(ast.unparse(each))
        elif isinstance(each, (ast.Yield, ast.YieldFrom, ast.Nonlocal, ast.Delete)):
            faults.append(ast.unparse(each))
        elif isinstance(each, ast.Name) and each.id == "map":
            faults.append("map")
    return faults


def called_by(node, known):
    """The names of own functions, methods and properties that a function may run."""
    found = []
    bound = bound_names(node)
    for each in ast.walk(node):
        if isinstance(each, ast.Name) and each.id in known and each.id not in bound:
            found.append(each.id)
        elif isinstance(each, ast.Attribute) and each.attr in known:
            found.append(each.attr)
    return found


def reached(starts, known):
    """All functions that these may run, directly or through others."""
    names = list(starts)
    for name in names:
        for node in known[name]:
            names.extend(other for other in called_by(node, known) if other not in names)
    return names


class CheckerTests(unittest.TestCase):
    """The checks themselves: what they find and what they let pass."""

    def faults(self, text):
        return faults_of(ast.parse(text).body[0])

    def test_what_is_found(self):
        for text in (
                "def f(xs):\n    xs.append(1)", "def f(xs):\n    ys = xs\n    ys[0] = 1",
                "def f():\n    xs = g()\n    xs.extend([1])", "def f(self):\n    self.n = 1",
                "def f(g):\n    return g(1)", "def f(self):\n    self.rows.append(1)", "def f(n):\n    n += 1",
                "def f(xs):\n    del xs[0]", "def f():\n    xs = []\n    xs = g()\n    xs.append(1)",
                "def f(rows):\n    return rows[0](1)", "def f(rows):\n    for xs in rows:\n        xs.append(1)"):
            self.assertTrue(self.faults(text), text)

    def test_what_passes(self):
        for text in (
                "def f():\n    xs = list(g())\n    xs.extend([1])", "def f(x):\n    xs = [0] * x\n    xs[0] = 1",
                "def f():\n    n = 5\n    n += len(g())\n    return n", "def f(x):\n    return h(x) + x.count(1)",
                "def f(x):\n    d = {}\n    d.setdefault(x, []).append(1)"):
            self.assertEqual(self.faults(text), [], text)


class PropertyTests(unittest.TestCase):

    def test_properties_change_nothing_and_call_nothing_that_is_passed(self):
        known = functions()
        starts = [name for name, nodes in known.items() if any(is_property(node) for node in nodes)]
        self.assertTrue({"table", "plan", "certificate", "slack", "file", "account", "counters"} <= set(starts))
        starts += [name for name in ("__len__", "__eq__", "__str__", "__repr__") if name in known]
        names = reached(starts, known)
        self.assertIn("written", names)
        for name in names:
            for node in known[name]:
                self.assertEqual(faults_of(node), [], name)

    def test_what_is_called_is_known(self):
        known = [*functions(), *classes(), *dir(builtins)]
        for name, tree in trees().items():
            for node in ast.walk(tree):
                if isinstance(node, ast.Call) and isinstance(node.func, ast.Name):
                    self.assertIn(node.func.id, [*known, "cls"], name)

    def test_names_of_properties(self):
        attributes = [node.attr for tree in trees().values() for node in ast.walk(tree)
                      if isinstance(node, ast.Attribute) and isinstance(node.ctx, ast.Store)]
        for name, nodes in functions().items():
            if any(is_property(node) for node in nodes):
                self.assertTrue(all(is_property(node) for node in nodes), name)
                self.assertNotIn(name, attributes)


if __name__ == "__main__":
    unittest.main()
