"""The form of what operators run: it changes only what it made, and calls nothing that it holds.

What an operator runs is found by names alone: each function and method of the package whose
name stands in it as a call counts, whichever object it may belong to.
"""

import ast
import pathlib
import unittest

PACKAGE = pathlib.Path(__file__).resolve().parent.parent / "galloon"

CHANGING = {
    "append", "clear", "extend", "insert", "pop", "remove", "reverse", "setdefault", "update", "add", "discard",
    "appendleft", "popleft", "sort",
}
MAKERS = {"list", "dict", "set", "sorted"}
NO_OPERATORS = {"__init__", "__iter__", "__call__", "__setitem__", "__enter__", "__exit__"}
COMPREHENSIONS = (ast.ListComp, ast.DictComp, ast.SetComp)


def trees():
    """The code of all files of the package."""
    return [ast.parse(path.read_text(encoding="utf-8")) for path in sorted(PACKAGE.rglob("*.py"))]


def decorators(node):
    """The names of the decorators of a function."""
    return [getattr(part, "id", "") for part in node.decorator_list]


def stored_attributes(files):
    """The names of all attributes that something of the package assigns."""
    return {
        node.attr for tree in files for node in ast.walk(tree)
        if isinstance(node, ast.Attribute) and isinstance(node.ctx, ast.Store)
    }


def own_functions(files):
    """For each name the functions and methods so called; for a class its `__init__`."""
    found = {}
    for tree in files:
        for node in ast.walk(tree):
            if isinstance(node, ast.FunctionDef):
                found.setdefault(node.name, []).append(node)
            elif isinstance(node, ast.ClassDef):
                made = [part for part in node.body if isinstance(part, ast.FunctionDef) and part.name == "__init__"]
                found.setdefault(node.name, []).extend(made)
    return found


def called_name(node):
    """The name by which a call calls, or None."""
    if isinstance(node.func, ast.Name):
        return node.func.id
    return getattr(node.func, "attr", None)


def beginnings(files):
    """The operators, properties and the like."""
    return [
        node for tree in files for node in ast.walk(tree)
        if isinstance(node, ast.FunctionDef)
        and (node.name.startswith("__") and node.name not in NO_OPERATORS or "property" in decorators(node))
    ]


def run_by_operators(files):
    """All functions and methods that an operator may run."""
    own = own_functions(files)
    waiting = beginnings(files)
    found = list(waiting)
    while waiting:
        node = waiting.pop()
        calls = [called_name(part) for part in ast.walk(node) if isinstance(part, ast.Call)]
        for name in calls:
            for other in own.get(name, []):
                if other not in found:
                    found.append(other)
                    waiting.append(other)
    return found


def root(node):
    """The name at the beginning of `name[..][..]`, `name[..].attribute` and the like."""
    while isinstance(node, (ast.Subscript, ast.Attribute)):
        node = node.value
    if isinstance(node, ast.Call) and isinstance(node.func, ast.Attribute) and node.func.attr == "setdefault":
        return root(node.func.value)
    return node.id if isinstance(node, ast.Name) else ast.dump(node)


def changed_names(function):
    """The names whose lists, dicts or sets a function changes."""
    found = set()
    for node in ast.walk(function):
        if isinstance(node, ast.Subscript) and not isinstance(node.ctx, ast.Load):
            found.add(root(node))
        elif isinstance(node, ast.Call) and isinstance(node.func, ast.Attribute) and node.func.attr in CHANGING:
            found.add(root(node.func.value))
    return found


def is_new(value):
    """Does an expression plainly make a new list, dict or set?"""
    if isinstance(value, (ast.List, ast.Dict, ast.Set) + COMPREHENSIONS):
        return True
    if isinstance(value, ast.Call) and isinstance(value.func, ast.Name):
        return value.func.id in MAKERS
    # What brackets give is not plainly new: they may be those of an own class.
    return isinstance(value, ast.BinOp) and is_new(value.left) and is_new(value.right)


def other_meanings(function, name):
    """Where a name gets a value other than by `name = ` and something new."""
    plain = set()
    for node in ast.walk(function):
        if isinstance(node, ast.Assign) and is_new(node.value):
            plain.update(target for target in node.targets if isinstance(target, ast.Name))
    stores = [
        node for node in ast.walk(function)
        if isinstance(node, ast.Name) and node.id == name and isinstance(node.ctx, ast.Store) and node not in plain
    ]
    parameters = [node for node in ast.walk(function) if isinstance(node, ast.arg) and node.arg == name]
    return stores + parameters


def bound_here(function):
    """The parameters and local variables of a function."""
    names = {node.id for node in ast.walk(function) if isinstance(node, ast.Name) and isinstance(node.ctx, ast.Store)}
    return names | {node.arg for node in ast.walk(function) if isinstance(node, ast.arg)}


def stored_here(function):
    """The attributes that a function assigns, each with the name that stands before it."""
    return [
        (root(node), node) for node in ast.walk(function)
        if isinstance(node, ast.Attribute) and isinstance(node.ctx, ast.Store)
    ]


class OperatorsTest(unittest.TestCase):
    def setUp(self):
        self.files = trees()
        self.reached = run_by_operators(self.files)

    def test_what_operators_run_is_found(self):
        names = {node.name for node in self.reached}
        self.assertLessEqual({"__contains__", "__mul__", "_product", "by_read", "least", "determined"}, names)
        self.assertLessEqual({"drift", "monotone", "_grown_looks", "_apart", "column_at", "inner", "_least_form"}, names)
        self.assertLessEqual({"flattened", "limit", "many", "past", "future"}, names)

    def test_no_method_is_called_by_the_name_of_an_attribute(self):
        stored = stored_attributes(self.files)
        self.assertLessEqual({"index", "count", "at", "rows"}, stored)
        for tree in self.files:
            for node in ast.walk(tree):
                if isinstance(node, ast.Call) and isinstance(node.func, ast.Attribute):
                    self.assertNotIn(node.func.attr, stored, node.lineno)

    def test_nothing_is_called_that_is_passed_or_local(self):
        for function in self.reached:
            for node in ast.walk(function):
                if isinstance(node, ast.Call):
                    self.assertIsInstance(node.func, (ast.Name, ast.Attribute), function.name)
                    if isinstance(node.func, ast.Name):
                        self.assertNotIn(node.func.id, bound_here(function), function.name)
                    for keyword in node.keywords:
                        self.assertNotEqual(keyword.arg, "key", function.name)

    def test_only_new_lists_under_names_of_their_own_are_changed(self):
        for function in self.reached:
            for name in changed_names(function):
                self.assertEqual(other_meanings(function, name), [], (function.name, name))
                self.assertIn(name, bound_here(function), function.name)

    def test_attributes_are_set_on_new_objects_only(self):
        for function in self.reached:
            for name, node in stored_here(function):
                if function.name == "__init__" and name == function.args.args[0].arg:
                    continue
                made = [
                    part for part in ast.walk(function) if isinstance(part, ast.Assign)
                    and isinstance(part.value, ast.Call) and isinstance(part.targets[0], ast.Name)
                    and part.targets[0].id == name
                ]
                self.assertEqual(len(made), 1, (function.name, node.lineno))
                parameters = [part.arg for part in ast.walk(function) if isinstance(part, ast.arg)]
                self.assertNotIn(name, parameters, function.name)

    def test_nothing_is_added_up_in_place_but_numbers(self):
        for function in self.reached:
            for node in ast.walk(function):
                if isinstance(node, ast.AugAssign):
                    self.assertIsInstance(node.target, ast.Name, function.name)
                    self.assertIsInstance(node.value, ast.Constant, function.name)


if __name__ == "__main__":
    unittest.main()
