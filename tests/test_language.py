"""The rules of the language that are plainly seen in a file: its characters, sizes, imports and statements."""

import ast
import builtins
import re
import unittest
from pathlib import Path

PACKAGE = Path(__file__).resolve().parent.parent / "turnedends"
FILES = sorted(PACKAGE.rglob("*.py"))
LIBRARY = {
    "heapq": {"heappush", "heappop", "heapify", "heapreplace", "heappushpop"},
    "math": {"gcd", "lcm", "isqrt", "comb", "perm", "factorial"},
    "itertools": {"product", "combinations", "permutations"},
}
BARRED = (ast.Global, ast.AsyncFunctionDef, ast.AsyncFor, ast.AsyncWith, ast.Await, ast.Import, ast.Div)
BUILTINS = {"len", "range", "enumerate", "zip", "min", "max", "sum", "abs", "sorted", "reversed", "int", "str", "bool",
            "list", "tuple", "dict", "set", "isinstance", "ord", "repr", "any", "all", "divmod", "super", "iter",
            "next", "map"}
# Names that stand nowhere, and such that are no names of variables, functions, classes or methods.
BARRED_NAMES = {"register", "mro", "elements", "open", "input", "law", "version_info", "with_traceback", "add_note",
                "attrgetter", "breakpoint", "builtins", "compile", "copyright", "credits", "delattr", "dir", "eval", "exec",
                "exit", "gc", "getattr", "globals", "hasattr", "help", "id", "importlib", "license", "locals",
                "methodcaller", "os", "quit", "setattr", "type", "vars", "sys", "__name__"}


def trees():
    """Each file of the package with its text and its syntax tree."""
    found = []
    for path in FILES:
        text = path.read_text("utf-8")
        found.append((path.name, text, ast.parse(text)))
    return found


def builtins_called(tree):
    """The bare names that are called in a file and are not bound in it."""
    bound = {node.name for node in ast.walk(tree) if isinstance(node, (ast.FunctionDef, ast.ClassDef))}
    bound |= {name.name for node in ast.walk(tree) if isinstance(node, ast.ImportFrom) for name in node.names}
    bound |= {node.id for node in ast.walk(tree) if isinstance(node, ast.Name) and isinstance(node.ctx, ast.Store)}
    bound |= {node.arg for node in ast.walk(tree) if isinstance(node, ast.arg)}
    called = {node.func.id for node in ast.walk(tree) if isinstance(node, ast.Call) and isinstance(node.func, ast.Name)}
    return called - bound


def names_bound(tree):
    """The names of the functions, parameters and variables in a file or a function; not those of methods."""
    methods = [node for outer in ast.walk(tree) if isinstance(outer, ast.ClassDef) for node in outer.body]
    found = {node.name for node in ast.walk(tree) if isinstance(node, ast.FunctionDef) and node not in methods}
    found |= {node.name for node in ast.walk(tree) if isinstance(node, ast.ClassDef)}
    found |= {node.id for node in ast.walk(tree) if isinstance(node, ast.Name) and isinstance(node.ctx, ast.Store)}
    return found | {node.arg for node in ast.walk(tree) if isinstance(node, ast.arg)}


class LanguageTest(unittest.TestCase):

    def test_the_package_has_files_of_its_own_alone(self):
        self.assertGreater(len(FILES), 3)
        for path in PACKAGE.rglob("*"):
            if path.name != "__pycache__" and path.parent.name != "__pycache__":
                self.assertRegex(path.name, r"^(__init__|[a-z][a-z0-9_]*)\.py$")

    def test_characters_and_sizes(self):
        for name, text, tree in trees():
            lines = text.split("\n")
            self.assertIsNone(re.search("[^ -~\n]", text), name)
            self.assertLess(len(lines), 400, name)
            self.assertLessEqual(max([len(line) for line in lines]), 120, name)
            for node in ast.walk(tree):
                if isinstance(node, ast.FunctionDef):
                    self.assertLessEqual(node.end_lineno - node.lineno + 1, 40, node.name)

    def test_imports(self):
        for name, _, tree in trees():
            for node in ast.walk(tree):
                if isinstance(node, ast.ImportFrom):
                    self.assertIn(node, tree.body, name)
                    self.assertEqual(node.level, 0, name)
                    own = node.module.startswith("turnedends.")
                    for word in node.names:
                        self.assertIsNone(word.asname, name)
                        self.assertTrue(own or word.name in LIBRARY.get(node.module, ()), (name, word.name))

    def test_statements(self):
        for name, _, tree in trees():
            for node in ast.walk(tree):
                self.assertNotIsInstance(node, BARRED, name)
                if isinstance(node, ast.Constant):
                    self.assertNotIsInstance(node.value, (float, complex), name)
                    self.assertFalse(isinstance(node.value, str) and "%" in node.value, name)

    def test_module_level(self):
        for name, _, tree in trees():
            for node in tree.body:
                docstring = isinstance(node, ast.Expr) and isinstance(node.value, ast.Constant)
                self.assertTrue(docstring or isinstance(
                    node, (ast.ImportFrom, ast.FunctionDef, ast.ClassDef, ast.Assign)), name)

    def test_what_takes_a_list_beside_a_class_that_compares(self):
        for name, text, tree in trees():
            self.assertNotIn(".sort(", text, name)
            for node in ast.walk(tree):
                self.assertNotIsInstance(node, ast.GeneratorExp, name)

    def test_names(self):
        for name, _, tree in trees():
            imported = [word.name for node in tree.body if isinstance(node, ast.ImportFrom) for word in node.names]
            classes = [node.name for node in tree.body if isinstance(node, ast.ClassDef)]
            self.assertEqual(len(imported), len(set(imported)), name)
            # What doctest shows is kept in the builtins as `_`, too.
            for word in names_bound(tree) - {"_"}:
                self.assertFalse(hasattr(builtins, word), (name, word))
                self.assertNotIn(word, BARRED_NAMES, name)
                self.assertRegex(word, "^_?[A-Za-z][A-Za-z0-9_]*$", name)
            for function in [node for node in ast.walk(tree) if isinstance(node, ast.FunctionDef)]:
                for word in names_bound(function) - {function.name}:
                    self.assertNotIn(word, imported + classes, (name, function.name))

    def test_words(self):
        for name, text, tree in trees():
            for node in ast.walk(tree):
                if isinstance(node, (ast.Name, ast.Attribute)):
                    word = node.id if isinstance(node, ast.Name) else node.attr
                    self.assertNotIn(word, BARRED_NAMES, name)
            self.assertNotRegex(text, "dataclass|overload|contextmanager|namedtuple|Protocol|_wall|_WallAttr", name)

    def test_methods_and_attributes(self):
        methods, attributes, properties = {}, {}, set()
        for name, _, tree in trees():
            for outer in [node for node in ast.walk(tree) if isinstance(node, ast.ClassDef)]:
                for node in [node for node in outer.body if isinstance(node, ast.FunctionDef)]:
                    methods.setdefault(node.name, []).append(outer.name)
                    decorators = [ast.unparse(word) for word in node.decorator_list]
                    self.assertIn(decorators, ([], ["property"]), (name, node.name))
                    properties |= {node.name} if decorators else set()
                words = {node.attr for node in ast.walk(outer) if isinstance(node, ast.Attribute)
                         and isinstance(node.ctx, ast.Store)}
                attributes.update({word: outer.name for word in words})
        self.assertEqual(sorted(set(methods) & set(attributes)), [])
        self.assertEqual(sorted(properties), ["journal", "kept", "working"])
        for word in [*methods, *attributes]:
            if not word.startswith("__"):
                for value in ("", 0, [], {}, set(), b""):
                    self.assertFalse(hasattr(value, word), word)
        for word in properties:
            self.assertEqual(len(methods[word]), 1)

    def test_double_underscore_methods(self):
        allowed = {"__init__", "__eq__", "__len__", "__enter__", "__exit__"}
        for name, _, tree in trees():
            functions = [node for node in ast.walk(tree) if isinstance(node, ast.FunctionDef)]
            for node in functions:
                self.assertTrue(not node.name.startswith("__") or node.name in allowed, (name, node.name))
            for node in [node for node in functions if node.name == "__len__"]:
                self.assertRegex(ast.unparse(node.body[-1]), r"^return len\(.*\)$")
            for node in [node for node in functions if node.name == "__exit__"]:
                for row in node.body:
                    self.assertIsInstance(row, ast.Assign)
                    self.assertIsInstance(row.value, (ast.Attribute, ast.Constant))

    def test_what_a_loop_iterates_over_is_not_assigned_in_it(self):
        for name, _, tree in trees():
            for loop in [node for node in ast.walk(tree) if isinstance(node, ast.For)]:
                over = ast.unparse(loop.iter)
                for node in ast.walk(ast.Module(loop.body, [])):
                    if isinstance(node, ast.Subscript) and not isinstance(node.ctx, ast.Load):
                        self.assertNotEqual(ast.unparse(node.value), over, name)
                    if isinstance(node, ast.Attribute) and node.attr in ("append", "pop", "extend", "clear", "update"):
                        self.assertNotEqual(ast.unparse(node.value), over, name)

    def test_sets_generators_and_functions_within_functions(self):
        barred = (ast.Set, ast.SetComp, ast.Yield, ast.YieldFrom, ast.GeneratorExp, ast.Nonlocal, ast.Try)
        for name, _, tree in trees():
            for node in ast.walk(tree):
                self.assertNotIsInstance(node, barred, name)
                if isinstance(node, ast.FunctionDef):
                    within = [other for other in ast.walk(node) if isinstance(other, ast.FunctionDef)]
                    self.assertEqual(within, [node], name)

    def test_no_two_files_import_from_each_other(self):
        imports = {}
        for path in FILES:
            tree = ast.parse(path.read_text("utf-8"))
            imports[path.stem] = [node.module.split(".")[1] for node in tree.body if isinstance(node, ast.ImportFrom)
                                  and node.module.startswith("turnedends.")]
        done = []
        while len(done) < len(imports):
            ready = [stem for stem in imports if stem not in done and set(imports[stem]) <= set(done)]
            self.assertNotEqual(ready, [], sorted(set(imports) - set(done)))
            done += ready

    def test_builtins(self):
        for name, _, tree in trees():
            errors = {word for word in builtins_called(tree) if word.endswith("Error")}
            self.assertEqual(builtins_called(tree) - errors - BUILTINS, set(), name)


if __name__ == "__main__":
    unittest.main()
