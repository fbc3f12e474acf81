"""The rules of the Python subset that a test can see in the files of the package."""

import ast
import os
import unittest

import eyesonly

FOLDER = os.path.dirname(eyesonly.__file__)
LIBRARY = ("heapq", "math", "itertools", "collections")
FORBIDDEN_NODES = (
    ast.Global, ast.AsyncFunctionDef, ast.AsyncFor, ast.AsyncWith, ast.Await, ast.Div, ast.Import, ast.TryStar,
)
BUILTINS = (
    "len range enumerate zip min max sum abs sorted reversed int str bool bytes list tuple dict set frozenset isinstance "
    "ord repr any all divmod pow getattr hasattr setattr iter next map super Exception ValueError TypeError KeyError "
    "IndexError LookupError ZeroDivisionError ArithmeticError OverflowError RuntimeError NotImplementedError "
    "AttributeError StopIteration NotImplemented property staticmethod classmethod"
).split()
ALL_BUILTINS = set(dir(__builtins__) if not isinstance(__builtins__, dict) else __builtins__)
METHODS = (
    "append clear copy count endswith extend find get index insert isalnum isalpha isdigit islower isspace isupper items "
    "join keys ljust lower lstrip partition pop remove replace reverse rfind rjust rpartition rsplit rstrip setdefault "
    "split splitlines startswith strip update upper values zfill bit_length sort add discard"
).split()
BUILTIN_VALUES = ("", b"", 0, [], (), {}, set())
BARRED_NAMES = (
    "register mro elements open input law version_info with_traceback add_note attrgetter breakpoint builtins compile "
    "copyright credits delattr dir eval exec exit gc globals help id importlib license locals methodcaller os quit type "
    "vars sys format"
).split()


def files():
    """The name, the text and the syntax tree of each file of the package."""
    for name in sorted(os.listdir(FOLDER)):
        if name != "__pycache__":
            with open(os.path.join(FOLDER, name), encoding="ascii", newline="") as file:
                text = file.read()
            yield name, text, ast.parse(text)


def functions_in(node):
    return [item for item in ast.walk(node) if isinstance(item, ast.FunctionDef)]


def bound_names(node):
    """Each name that is given a meaning anywhere in a file."""
    for item in ast.walk(node):
        if isinstance(item, ast.Name) and not isinstance(item.ctx, ast.Load):
            yield item.id
        elif isinstance(item, ast.arg):
            yield item.arg
        elif isinstance(item, (ast.FunctionDef, ast.ClassDef)):
            yield item.name
        elif isinstance(item, ast.alias):
            yield item.asname or item.name
        elif isinstance(item, ast.ExceptHandler) and item.name:
            yield item.name


class Language(unittest.TestCase):
    def test_files(self):
        for name, text, _ in files():
            self.assertRegex(name, "^([a-z][a-z0-9_]*|__init__)[.]py$")
            self.assertTrue(all(sign == "\n" or " " <= sign <= "~" for sign in text), name)
            self.assertLessEqual(text.count("\n"), 399, name)
            for line in text.split("\n"):
                self.assertLessEqual(len(line), 120, (name, line))

    def test_functions_are_short(self):
        for name, _, node in files():
            for function in functions_in(node):
                self.assertLessEqual(function.end_lineno - function.lineno + 1, 40, (name, function.name))
                self.assertEqual([item for item in function.decorator_list], [], (name, function.name))

    def test_imports(self):
        imported = {}
        for name, _, node in files():
            imported[name[:-3]] = []
            for item in ast.walk(node):
                if isinstance(item, ast.ImportFrom):
                    self.assertEqual(item.level, 0)
                    self.assertIn(item, node.body)
                    if item.module not in LIBRARY:
                        package, module = item.module.split(".")
                        self.assertEqual(package, "eyesonly")
                        imported[name[:-3]].append(module)
                        self.check_defined(module, [alias.name for alias in item.names])
        done = set()
        while len(done) < len(imported):
            ready = [name for name in imported if name not in done and set(imported[name]) <= done]
            self.assertNotEqual(ready, [], "files that import from each other")
            done.update(ready)

    def check_defined(self, module, names):
        """Each name is defined in this very file."""
        with open(os.path.join(FOLDER, module + ".py"), encoding="ascii") as file:
            body = ast.parse(file.read()).body
        found = [item.name for item in body if isinstance(item, (ast.FunctionDef, ast.ClassDef))]
        found += [item.targets[0].id for item in body if isinstance(item, ast.Assign)]
        self.assertEqual([name for name in names if name not in found], [], module)

    def test_module_level(self):
        allowed = (ast.ImportFrom, ast.FunctionDef, ast.ClassDef, ast.Assign)
        for name, _, node in files():
            bound = []
            for at, item in enumerate(node.body):
                docstring = at == 0 and isinstance(item, ast.Expr) and isinstance(item.value, ast.Constant)
                self.assertTrue(docstring or isinstance(item, allowed), (name, item.lineno))
                if isinstance(item, ast.Assign):
                    self.assertIsInstance(item.targets[0], ast.Name)
                    self.assertFalse([part for part in ast.walk(item.value) if isinstance(part, ast.Call)])
                    bound.append(item.targets[0].id)
                elif isinstance(item, (ast.FunctionDef, ast.ClassDef)):
                    bound.append(item.name)
                elif isinstance(item, ast.ImportFrom):
                    bound.extend(alias.name for alias in item.names)
            self.assertEqual(len(bound), len(set(bound)), name)
            for function in functions_in(node):
                inner = {item for item in bound_names(function)} - {function.name}
                taken = {alias.name for item in node.body if isinstance(item, ast.ImportFrom) for alias in item.names}
                self.assertEqual(inner & taken, set(), (name, function.name))

    def test_names(self):
        for name, _, node in files():
            for bound in bound_names(node):
                self.assertNotIn(bound, ALL_BUILTINS, name)
                self.assertNotIn(bound, BARRED_NAMES, name)
                self.assertTrue(not bound.startswith("__") or bound == "__init__", (name, bound))

    def test_builtins_and_methods(self):
        own_methods, attributes = set(METHODS), set()
        for _, _, node in files():
            for item in node.body:
                if isinstance(item, ast.ClassDef):
                    own_methods.update(function.name for function in functions_in(item))
            for item in ast.walk(node):
                if isinstance(item, ast.Attribute) and isinstance(item.ctx, ast.Store):
                    attributes.add(item.attr)
        for attribute in attributes:
            for value in BUILTIN_VALUES:
                self.assertFalse(hasattr(value, attribute), attribute)
        for name, _, node in files():
            called = [item.func for item in ast.walk(node) if isinstance(item, ast.Call)]
            for item in ast.walk(node):
                if isinstance(item, ast.Name) and item.id in ALL_BUILTINS:
                    self.assertIn(item.id, BUILTINS, (name, item.lineno))
                if isinstance(item, ast.Attribute):
                    self.assertIn(item.attr, own_methods if item in called else attributes, (name, item.lineno))

    def test_statements_and_values(self):
        for name, text, node in files():
            for item in ast.walk(node):
                self.assertNotIsInstance(item, FORBIDDEN_NODES, name)
                if isinstance(item, ast.Constant):
                    self.assertNotIsInstance(item.value, (float, complex), name)
                    self.assertFalse(isinstance(item.value, str) and chr(37) in item.value, (name, item.lineno))
                if isinstance(item, ast.Compare) and isinstance(item.ops[0], (ast.Is, ast.IsNot)):
                    self.assertIsInstance(item.comparators[0], ast.Constant)
                if isinstance(item, ast.Raise) and item.exc is not None:
                    self.assertIsInstance(item.exc, ast.Call)
            compile(text, name, "exec")
