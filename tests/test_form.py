"""The form of the package: the rules of the Python subset that can be read off the code."""

import ast
import builtins
import pathlib
import re
import unittest

PACKAGE = pathlib.Path(__file__).resolve().parent.parent / "galloon"
FILES = sorted(PACKAGE.rglob("*.py"))

CALLED = {
    "len", "range", "enumerate", "zip", "min", "max", "sum", "abs", "sorted", "reversed", "int", "str", "bool",
    "list", "tuple", "dict", "set", "isinstance", "ord", "repr", "any", "all", "divmod", "iter", "next", "super",
    "map", "pow",
}
ERRORS = {"ValueError", "TypeError", "KeyError", "ZeroDivisionError", "NotImplementedError", "NotImplemented"}
LIBRARY = {"math": {"gcd", "lcm"}}
DECORATORS = {"classmethod", "staticmethod", "property"}
NODES = (ast.AsyncFunctionDef, ast.AsyncFor, ast.AsyncWith, ast.Await, ast.Import, ast.Div, ast.AnnAssign)
NO_GENERATORS = {"any", "all", "min", "max", "sum", "sorted"}
DOUBLE = {
    "__init__", "__eq__", "__repr__", "__str__", "__len__", "__call__", "__iter__", "__getitem__", "__setitem__",
    "__contains__", "__bool__", "__add__", "__sub__", "__mul__", "__and__", "__or__", "__xor__", "__invert__",
}
METHODS = {
    "append", "clear", "copy", "count", "endswith", "extend", "find", "get", "index", "insert", "isalnum", "isalpha",
    "isdigit", "islower", "isspace", "isupper", "items", "join", "keys", "ljust", "lower", "lstrip", "partition",
    "pop", "remove", "replace", "reverse", "rfind", "rjust", "rpartition", "rsplit", "rstrip", "setdefault", "split",
    "splitlines", "startswith", "strip", "update", "upper", "values", "zfill", "bit_length", "add", "discard",
}
NEVER = {"register", "mro", "elements", "open", "input", "law", "builtins", "gc", "importlib", "os", "sys"}


def functions(tree):
    """All functions and methods of a file."""
    return [node for node in ast.walk(tree) if isinstance(node, ast.FunctionDef)]


def bound_names(tree):
    """All names that a file gives a meaning to, except methods and attributes."""
    for node in ast.walk(tree):
        if isinstance(node, ast.Name) and not isinstance(node.ctx, ast.Load):
            yield node.id
        elif isinstance(node, ast.arg):
            yield node.arg
        elif isinstance(node, ast.alias):
            yield node.name
    for node in tree.body:
        if isinstance(node, (ast.FunctionDef, ast.ClassDef)):
            yield node.name


class FormTest(unittest.TestCase):
    def each(self):
        for path in FILES:
            text = path.read_text(encoding="utf-8")
            with self.subTest(path=path.name):
                yield path, text, ast.parse(text)

    def test_the_folder_has_plain_python_files_only(self):
        self.assertTrue((PACKAGE / "__init__.py").exists())
        for path in PACKAGE.rglob("*"):
            if "__pycache__" not in path.parts:
                self.assertTrue(re.fullmatch("[a-z][a-z0-9_]*[.]py|__init__[.]py", path.name), path)

    def test_size_and_characters(self):
        for _, text, tree in self.each():
            lines = text.split("\n")
            self.assertLessEqual(len(lines), 400)
            self.assertLessEqual(max(len(line) for line in lines), 120)
            self.assertIsNone(re.search("[^ -~\n]", text))
            self.assertEqual([line for line in lines if line != line.rstrip()], [])
            for node in functions(tree):
                self.assertLessEqual(node.end_lineno - node.lineno + 1, 40, node.name)

    def test_module_level(self):
        for _, _, tree in self.each():
            self.assertTrue(ast.get_docstring(tree))
            allowed = (ast.ImportFrom, ast.FunctionDef, ast.ClassDef, ast.Assign)
            self.assertEqual([node for node in tree.body[1:] if not isinstance(node, allowed)], [])
            for node in tree.body:
                if isinstance(node, ast.Assign):
                    self.assertFalse([part for part in ast.walk(node.value) if isinstance(part, (ast.List, ast.Dict))])
                    ast.literal_eval(node.value)

    def test_imports(self):
        order = {}
        for path, _, tree in self.each():
            found = []
            for node in ast.walk(tree):
                if isinstance(node, ast.ImportFrom):
                    self.assertIn(node, tree.body)
                    self.assertEqual(node.level, 0)
                    if node.module in LIBRARY:
                        self.assertLessEqual({alias.name for alias in node.names}, LIBRARY[node.module])
                        continue
                    self.assertTrue(node.module.startswith("galloon."))
                    home = ast.parse((PACKAGE / (node.module.split(".")[1] + ".py")).read_text())
                    made = [part.name for part in home.body if isinstance(part, (ast.FunctionDef, ast.ClassDef))]
                    made += [part.targets[0].id for part in home.body if isinstance(part, ast.Assign)]
                    for alias in node.names:
                        self.assertIsNone(alias.asname)
                        self.assertIn(alias.name, made)
                    found.append(node.module.split(".")[1])
            order[path.stem] = found
        while order:
            ready = [name for name in order if not any(other in order for other in order[name])]
            self.assertTrue(ready, "files import from each other")
            for name in ready:
                del order[name]

    def test_statements_and_expressions(self):
        for _, _, tree in self.each():
            for node in ast.walk(tree):
                self.assertNotIsInstance(node, NODES, getattr(node, "lineno", None))
                if isinstance(node, ast.Constant):
                    self.assertIn(node.value.__class__, (int, str, bool, None.__class__))
                if isinstance(node, ast.FunctionDef):
                    names = [ast.unparse(decorator) for decorator in node.decorator_list]
                    self.assertTrue(len(names) < 2 and set(names) <= DECORATORS | {node.name + ".setter"}, node.name)
                    self.assertFalse(node.name.startswith("__") and node.name not in DOUBLE, node.name)
                if isinstance(node, ast.Raise) and node.exc is not None:
                    self.assertIsInstance(node.exc, ast.Call)
                if isinstance(node, ast.Compare) and isinstance(node.ops[0], (ast.Is, ast.IsNot)):
                    self.assertIsInstance(node.comparators[0], ast.Constant)

    def test_strings(self):
        for _, _, tree in self.each():
            told = {id(node.body[0].value) for node in ast.walk(tree) if begins_with_docstring(node)}
            for node in ast.walk(tree):
                if isinstance(node, ast.Constant) and isinstance(node.value, str) and id(node) not in told:
                    self.assertNotIn(chr(37), node.value)
                    self.assertNotIn("__", node.value)

    def test_names(self):
        banned = set(dir(builtins)) | NEVER
        for _, _, tree in self.each():
            for name in bound_names(tree):
                self.assertNotIn(name, banned)
                self.assertTrue(re.fullmatch("_?[A-Za-z][A-Za-z0-9_]*|_", name), name)
            classes = [node.name for node in tree.body if isinstance(node, ast.ClassDef)]
            imports = [alias.name for node in tree.body if isinstance(node, ast.ImportFrom) for alias in node.names]
            for node in functions(tree):
                local = [part.id for part in ast.walk(node)
                         if isinstance(part, ast.Name) and not isinstance(part.ctx, ast.Load)]
                local += [part.arg for part in ast.walk(node) if isinstance(part, ast.arg)]
                self.assertEqual(set(local) & set(classes + imports), set(), node.name)
                read = [part for part in ast.walk(node) if isinstance(part, ast.Name) and part.id == "_"]
                self.assertFalse([part for part in read if isinstance(part.ctx, ast.Load)], node.name)

    def test_no_class_is_read_within_a_comprehension_or_a_nested_function(self):
        inner = (ast.ListComp, ast.DictComp, ast.SetComp, ast.GeneratorExp, ast.Lambda, ast.FunctionDef)
        for _, _, tree in self.each():
            for node in functions(tree):
                within = [part for part in ast.walk(node) if isinstance(part, inner) and part is not node]
                names = [name.id for part in within for name in ast.walk(part) if isinstance(name, ast.Name)]
                self.assertNotIn("cls", names, node.name)

    def test_classes_with_items_refuse_iteration(self):
        for _, _, tree in self.each():
            for node in tree.body:
                made = [part.name for part in ast.walk(node) if isinstance(part, ast.FunctionDef)]
                if "__getitem__" in made:
                    self.assertIn("__iter__", made)

    def test_builtins_and_methods(self):
        own = {node.name for _, _, tree in self.each() for node in functions(tree)}
        for _, _, tree in self.each():
            names = {node.id for node in ast.walk(tree) if isinstance(node, ast.Name)}
            used = {name for name in names if name in dir(builtins)}
            self.assertLessEqual(used, CALLED | ERRORS | DECORATORS)
            for node in ast.walk(tree):
                if isinstance(node, ast.Call) and isinstance(node.func, ast.Attribute):
                    self.assertIn(node.func.attr, METHODS | own)

    def test_what_stands_beside_classes_that_compare(self):
        # Such a package passes lists to these functions, and sets only to `sorted` and `len`.
        for _, _, tree in self.each():
            for node in ast.walk(tree):
                if isinstance(node, ast.Attribute):
                    self.assertNotEqual(node.attr, "sort")
                if isinstance(node, (ast.For, ast.comprehension)):
                    self.assertNotIsInstance(node.iter, (ast.Set, ast.SetComp))
                if isinstance(node, ast.Call) and isinstance(node.func, ast.Name) and node.func.id in NO_GENERATORS:
                    self.assertFalse([part for part in node.args if isinstance(part, ast.GeneratorExp)])


def begins_with_docstring(node):
    """Does a part of the code begin with a docstring?"""
    kinds = (ast.Module, ast.ClassDef, ast.FunctionDef)
    return isinstance(node, kinds) and ast.get_docstring(node) is not None


if __name__ == "__main__":
    unittest.main()
