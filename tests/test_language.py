"""What a test can tell of the language's rules, for every file of the package."""

import ast
import builtins
import re
import unittest
from pathlib import Path

PACKAGE = Path(__file__).resolve().parent.parent / "caseslive"

LIBRARY = {
    "heapq": {"heappush", "heappop", "heapify", "heapreplace", "heappushpop"},
    "math": {"gcd", "lcm", "isqrt", "comb", "perm", "factorial"},
    "itertools": {"product", "combinations", "permutations", "chain", "accumulate", "pairwise",
                  "islice", "zip_longest"},
    "collections": {"defaultdict", "deque"},
}
ERRORS = {
    "Exception", "ValueError", "TypeError", "KeyError", "IndexError", "LookupError",
    "ZeroDivisionError", "ArithmeticError", "OverflowError", "RuntimeError",
    "NotImplementedError", "AttributeError", "StopIteration",
}
BUILTINS = ERRORS | {
    "len", "range", "enumerate", "zip", "min", "max", "sum", "abs", "sorted", "reversed", "int",
    "str", "bool", "bytes", "list", "tuple", "dict", "set", "isinstance", "ord", "repr", "any",
    "all", "divmod", "pow", "getattr", "hasattr", "setattr", "NotImplemented", "property",
    "staticmethod", "classmethod", "super", "iter", "next", "map", "type",
}
CAUGHT = {"KeyError", "ZeroDivisionError", "StopIteration", "ValueError", "LookupError",
          "IndexError"}
BARRED_NAMES = {"register", "mro", "elements", "open", "input", "law", "version_info",
                "with_traceback", "add_note"}
# L12: names that are barred, and what names of variables, functions and classes do not begin with.
BARRED_PRIVATE = {"_cold", "_tuplegetter", "_outside", "_record", "_written_out", "_member_names"}
BARRED_BEGINNINGS = ("_wall", "_pe_", "_dcw_", "_enum_", "_cm_", "_twin_re_", "_lay_", "_law_",
                     "_stub_", "_sre", "_WallAttr")
# L26: what no attribute and what no method is called.
BARRED_ATTRIBUTES = {"items", "keys", "values", "pop", "update", "append", "clear", "extend",
                     "insert", "remove", "reverse", "setdefault", "sort", "args", "encode",
                     "decode", "hex", "fromhex", "format"}
DOUBLE = {
    "__init__", "__eq__", "__repr__", "__str__", "__len__", "__enter__", "__exit__", "__call__",
    "__iter__", "__lt__", "__le__", "__gt__", "__ge__", "__ne__", "__contains__",
    "__getitem__", "__setitem__", "__bool__", "__slots__", "__class__", "__name__",
}
BARRED_NODES = (
    ast.AsyncFunctionDef, ast.AsyncFor, ast.AsyncWith, ast.Await, ast.Import, ast.Div, ast.MatMult,
    ast.Global,
)


def package_files():
    """The source files of the package, in order."""
    return sorted(path for path in PACKAGE.iterdir() if path.suffix == ".py")


def trees():
    """Pairs of a file's name and its tree."""
    return [(path.name, ast.parse(path.read_text())) for path in package_files()]


def docstrings(tree):
    """The nodes of the tree that are docstrings."""
    found = []
    for node in ast.walk(tree):
        if isinstance(node, (ast.Module, ast.ClassDef, ast.FunctionDef)):
            first = node.body[0] if node.body else None
            if isinstance(first, ast.Expr) and isinstance(first.value, ast.Constant):
                found.append(first.value)
    return found


def bound_names(tree):
    """All names that the tree binds: variables, parameters, functions, classes, imports."""
    found = []
    for node in ast.walk(tree):
        if isinstance(node, ast.Name) and isinstance(node.ctx, ast.Store):
            found.append(node.id)
        elif isinstance(node, ast.arg):
            found.append(node.arg)
        elif isinstance(node, (ast.FunctionDef, ast.ClassDef)):
            found.append(node.name)
        elif isinstance(node, ast.alias):
            found.append(node.asname or node.name)
        elif isinstance(node, ast.ExceptHandler) and node.name:
            found.append(node.name)
    return found


def own_errors():
    """The names of the package's error classes."""
    tree = ast.parse((PACKAGE / "errors.py").read_text())
    return {node.name for node in tree.body if isinstance(node, ast.ClassDef)}


class Files(unittest.TestCase):
    def test_nothing_but_source_files(self):
        for path in PACKAGE.iterdir():
            # Python itself makes this folder; it is not committed.
            if path.name != "__pycache__":
                self.assertTrue(path.is_file(), path)
                self.assertRegex(path.name, r"^([a-z][a-z0-9_]*|__init__)\.py$")
        self.assertTrue((PACKAGE / "__init__.py").is_file())

    def test_characters(self):
        for path in package_files():
            for number, line in enumerate(path.read_bytes().split(b"\n"), start=1):
                self.assertEqual([code for code in line if not 32 <= code <= 126], [],
                                 (path.name, number))

    def test_lengths_of_lines_and_files(self):
        for path in package_files():
            lines = path.read_text().splitlines()
            self.assertLessEqual(len(lines), 399, path.name)
            for number, line in enumerate(lines, start=1):
                self.assertLessEqual(len(line), 120, (path.name, number))

    def test_lengths_of_functions(self):
        for name, tree in trees():
            for node in ast.walk(tree):
                if isinstance(node, ast.FunctionDef):
                    self.assertLessEqual(node.end_lineno - node.lineno + 1, 40, (name, node.name))


class Imports(unittest.TestCase):
    def test_only_from_the_package_and_the_named_library(self):
        for name, tree in trees():
            for node in ast.walk(tree):
                if isinstance(node, ast.ImportFrom):
                    self.assertIn(node, tree.body, name)
                    self.check_import(name, node)

    def check_import(self, name, node):
        self.assertEqual(node.level, 0, name)
        words = [alias.name for alias in node.names]
        if node.module in LIBRARY:
            self.assertLessEqual(set(words), LIBRARY[node.module], name)
            return
        parts = node.module.split(".")
        self.assertEqual((parts[0], len(parts)), ("caseslive", 2), name)
        source = ast.parse((PACKAGE / (parts[1] + ".py")).read_text())
        defined = {part.name for part in source.body
                   if isinstance(part, (ast.FunctionDef, ast.ClassDef))}
        for part in source.body:
            if isinstance(part, ast.Assign):
                defined.add(part.targets[0].id)
        self.assertLessEqual(set(words), defined, name)

    def test_no_circles(self):
        needs = {}
        for name, tree in trees():
            modules = [node.module for node in tree.body if isinstance(node, ast.ImportFrom)]
            needs[name] = [module.split(".")[1] + ".py" for module in modules if "." in module]
        while needs:
            free = [name for name in needs if not any(other in needs for other in needs[name])]
            self.assertTrue(free, needs)
            for name in free:
                del needs[name]


class Statements(unittest.TestCase):
    def test_module_level(self):
        allowed = (ast.ImportFrom, ast.FunctionDef, ast.ClassDef, ast.Assign)
        for name, tree in trees():
            strings = docstrings(tree)
            bound = []
            for node in tree.body:
                if not (isinstance(node, ast.Expr) and node.value in strings):
                    self.assertIsInstance(node, allowed, name)
                if isinstance(node, (ast.FunctionDef, ast.ClassDef)):
                    bound.append(node.name)
                elif isinstance(node, ast.ImportFrom):
                    bound.extend(alias.name for alias in node.names)
                elif isinstance(node, ast.Assign):
                    self.assertEqual(len(node.targets), 1, name)
                    ast.literal_eval(node.value)
                    bound.append(node.targets[0].id)
            self.assertEqual(len(bound), len(set(bound)), name)

    def test_no_barred_statement_or_sign(self):
        for name, tree in trees():
            for node in ast.walk(tree):
                self.assertNotIsInstance(node, BARRED_NODES, name)
                if isinstance(node, ast.Constant):
                    self.assertNotIsInstance(node.value, (float, complex), name)

    def test_decorators(self):
        for name, tree in trees():
            for node in ast.walk(tree):
                if isinstance(node, ast.ClassDef):
                    self.assertEqual(node.decorator_list, [], name)
                if isinstance(node, ast.FunctionDef):
                    for decorator in node.decorator_list:
                        self.assertRegex(ast.unparse(decorator),
                                         r"^(property|staticmethod|classmethod|\w+\.setter)$")

    def test_errors_are_named_and_made_on_the_spot(self):
        own = own_errors()
        for name, tree in trees():
            for node in ast.walk(tree):
                if isinstance(node, ast.ExceptHandler):
                    kinds = getattr(node.type, "elts", [node.type])
                    for kind in kinds:
                        self.assertIn(kind.id, own | CAUGHT, name)
                if isinstance(node, ast.Raise) and node.exc is not None:
                    self.assertIn(node.exc.func.id, own, name)

    def test_sets_and_strings(self):
        for name, tree in trees():
            strings = docstrings(tree)
            for node in ast.walk(tree):
                if isinstance(node, ast.Constant) and isinstance(node.value, str):
                    if node not in strings:
                        self.assertNotIn("%", node.value, name)
                        self.assertNotRegex(node.value, r"^__.*__$")
                if isinstance(node, (ast.For, ast.comprehension)):
                    self.assertNotIsInstance(node.iter, (ast.Set, ast.SetComp), name)

    def test_is_stands_beside_none_true_or_false(self):
        for name, tree in trees():
            for node in ast.walk(tree):
                if isinstance(node, ast.Compare):
                    for sign, other in zip(node.ops, node.comparators):
                        if isinstance(sign, (ast.Is, ast.IsNot)):
                            self.assertIn(ast.unparse(other), ["None", "True", "False"], name)


class Names(unittest.TestCase):
    def test_no_builtin_gets_another_meaning(self):
        methods = set()
        for name, tree in trees():
            for node in ast.walk(tree):
                if isinstance(node, ast.ClassDef):
                    methods.update(part.name for part in node.body
                                   if isinstance(part, ast.FunctionDef))
            for word in bound_names(tree):
                if word not in methods:
                    self.assertFalse(hasattr(builtins, word), (name, word))

    def test_only_the_allowed_builtins(self):
        for name, tree in trees():
            bound = set(bound_names(tree))
            for node in ast.walk(tree):
                if isinstance(node, ast.Name) and node.id not in bound:
                    self.assertIn(node.id, BUILTINS, name)

    def test_plain_names(self):
        for name, tree in trees():
            attributes = [node.attr for node in ast.walk(tree) if isinstance(node, ast.Attribute)]
            for word in bound_names(tree) + attributes:
                self.assertNotIn(word, BARRED_NAMES, name)
                if word.startswith("__"):
                    self.assertIn(word, DOUBLE, name)
                else:
                    self.assertTrue(re.fullmatch(r"_|_?[A-Za-z][A-Za-z0-9_]*", word), word)

    def test_barred_private_names(self):
        for name, tree in trees():
            attributes = [node.attr for node in ast.walk(tree) if isinstance(node, ast.Attribute)]
            for word in bound_names(tree) + attributes:
                self.assertNotIn(word.rstrip("0123456789_"), BARRED_PRIVATE, name)
            for word in bound_names(tree):
                self.assertFalse(word.startswith(BARRED_BEGINNINGS), (name, word))

    def test_attributes(self):
        for name, tree in trees():
            for node in ast.walk(tree):
                if isinstance(node, ast.Attribute) and isinstance(node.ctx, ast.Store):
                    self.assertNotIn(node.attr, BARRED_ATTRIBUTES, name)

    def test_no_name_is_a_method_and_an_attribute_of_one_class(self):
        for name, tree in trees():
            for part in tree.body:
                if isinstance(part, ast.ClassDef):
                    methods = [node.name for node in part.body if isinstance(node, ast.FunctionDef)]
                    stored = {node.attr for node in ast.walk(part) if isinstance(node, ast.Attribute)
                              and isinstance(node.ctx, ast.Store)}
                    self.assertEqual(len(methods), len(set(methods)), (name, part.name))
                    self.assertEqual(stored & set(methods), set(), (name, part.name))

    def test_no_variable_has_the_name_of_an_import_or_a_class(self):
        for name, tree in trees():
            taken = set()
            for part in tree.body:
                if isinstance(part, ast.ClassDef):
                    taken.add(part.name)
                elif isinstance(part, ast.ImportFrom):
                    taken.update(alias.name for alias in part.names)
            for node in ast.walk(tree):
                if isinstance(node, ast.Name) and isinstance(node.ctx, ast.Store):
                    self.assertNotIn(node.id, taken, name)
                elif isinstance(node, ast.arg):
                    self.assertNotIn(node.arg, taken, name)

    def test_barred_words(self):
        words = re.compile(r"\b(typing|enum|Enum|Protocol|Generic|ABC|namedtuple|NamedTuple)\b"
                           r"|dataclass|overload|contextmanager|_wall\b|_WallAttr")
        for path in package_files():
            self.assertIsNone(words.search(path.read_text()), path.name)


if __name__ == "__main__":
    unittest.main()
