"""The rules of the language that a look at the files can check; the others are for the reader."""

import ast
import builtins
import re
import unittest
from pathlib import Path

import lostplates
from lostplates import errors

PACKAGE = Path(lostplates.__file__).parent

LIBRARY = {
    "heapq": {"heappush", "heappop", "heapify", "heapreplace", "heappushpop"},
    "math": {"gcd", "lcm", "isqrt", "comb", "perm", "factorial"},
    "itertools": {
        "product", "combinations", "permutations", "chain", "accumulate", "pairwise", "islice", "zip_longest",
    },
    "collections": {"defaultdict"},
}
BUILTINS = set(
    "len range enumerate zip min max sum abs sorted reversed int str bool list tuple dict set isinstance ord repr any"
    " all divmod pow getattr hasattr setattr iter next map super property staticmethod classmethod NotImplemented"
    " Exception ValueError TypeError KeyError IndexError LookupError ZeroDivisionError ArithmeticError OverflowError"
    " RuntimeError NotImplementedError AttributeError StopIteration".split()
)
# House has __eq__, and with it these take a list instead of a generator expression.
LIST_TAKERS = {"any", "all", "min", "max", "sum", "sorted"}
DECORATORS = {"property", "staticmethod", "classmethod", "setter"}
METHODS = {"__init__", "__eq__", "__repr__", "__str__", "__len__", "__enter__", "__exit__"}
BARRED = re.compile(
    r"\b(register|mro|elements|open|input|law|version_info|with_traceback|add_note|type|typing|enum|Enum|Generic"
    r"|Protocol|ABC|namedtuple|NamedTuple|TypedDict|abstractmethod)\b|dataclass|overload|contextmanager"
)


def files():
    return sorted(path for path in PACKAGE.rglob("*") if path.is_file() and "__pycache__" not in path.parts)


def trees():
    return [(path.name, ast.parse(path.read_text(encoding="utf-8"))) for path in files()]


def nodes(kind):
    return [(name, node) for name, tree in trees() for node in ast.walk(tree) if isinstance(node, kind)]


def docstrings(tree):
    holders = [node for node in ast.walk(tree) if isinstance(node, (ast.Module, ast.ClassDef, ast.FunctionDef))]
    firsts = [node.body[0] for node in holders if node.body and ast.get_docstring(node) is not None]
    return [first.value for first in firsts]


def bound_names(tree):
    """All parameters, variables, functions and classes of a tree, without methods and imports."""
    methods = [part for node in ast.walk(tree) if isinstance(node, ast.ClassDef) for part in node.body]
    for node in ast.walk(tree):
        if isinstance(node, ast.arg):
            yield node.arg
        elif isinstance(node, ast.Name) and isinstance(node.ctx, ast.Store):
            yield node.id
        elif isinstance(node, (ast.FunctionDef, ast.ClassDef)) and node not in methods:
            yield node.name


class FilesTest(unittest.TestCase):
    def test_plain_files_only(self):
        for path in files():
            self.assertRegex(path.name, r"\A[a-z_][a-z0-9_]*\.py\Z")

    def test_characters_and_sizes(self):
        for path in files():
            text = path.read_bytes().decode("ascii")
            with self.subTest(path.name):
                self.assertEqual(re.sub(r"[ -~\n]", "", text), "")
                self.assertLessEqual(len(text.split("\n")) - 1, 399)
                self.assertEqual([line for line in text.split("\n") if len(line) > 120], [])

    def test_functions_have_at_most_40_lines(self):
        for name, node in nodes(ast.FunctionDef):
            self.assertLessEqual(node.end_lineno - node.lineno + 1, 40, (name, node.name))

    def test_barred_words(self):
        for name, tree in trees():
            told = [id(text) for text in docstrings(tree)]
            for node in ast.walk(tree):
                words = [getattr(node, field, None) for field in ("id", "attr", "arg", "name", "value")]
                found = [word for word in words if isinstance(word, str) and BARRED.search(word)]
                self.assertTrue(not found or id(node) in told, (name, found))


class NamesTest(unittest.TestCase):
    def test_imports(self):
        for name, node in nodes((ast.Import, ast.ImportFrom)):
            self.assertIsInstance(node, ast.ImportFrom, name)
            self.assertEqual(node.level, 0, name)
            names = {alias.name for alias in node.names}
            self.assertNotIn("*", names)
            if not node.module.startswith("lostplates."):
                self.assertLessEqual(names, LIBRARY[node.module], name)
                self.assertEqual([alias.asname for alias in node.names if alias.asname], [])

    def test_each_import_names_the_file_that_defines_the_name(self):
        defined = {
            f"lostplates.{name[:-3]}": {
                getattr(node, "name", None) or getattr(node.targets[0], "id", None)
                for node in tree.body if isinstance(node, (ast.FunctionDef, ast.ClassDef, ast.Assign))
            }
            for name, tree in trees()
        }
        for name, node in nodes(ast.ImportFrom):
            if node.module.startswith("lostplates."):
                self.assertLessEqual({alias.name for alias in node.names}, defined[node.module], name)

    def test_no_two_files_import_from_each_other(self):
        left = {name: set() for name, _ in trees()}
        for name, node in nodes(ast.ImportFrom):
            left[name].add(node.module.replace("lostplates.", "") + ".py")
        while left:
            free = [name for name, others in left.items() if not others & set(left)]
            self.assertNotEqual(free, [], left)
            for name in free:
                del left[name]

    def test_imports_are_used(self):
        for name, tree in trees():
            used = {node.id for node in ast.walk(tree) if isinstance(node, ast.Name)}
            imports = [alias.name for node in tree.body if isinstance(node, ast.ImportFrom) for alias in node.names]
            self.assertEqual([word for word in imports if word not in used], [], name)

    def test_generators_have_names_of_their_own(self):
        functions = [node for _, node in nodes(ast.FunctionDef)]
        made = [node.name for node in functions if any(isinstance(part, ast.Yield) for part in ast.walk(node))]
        bound = [word for _, tree in trees() for word in bound_names(tree) if word in made]
        self.assertEqual(sorted(bound), sorted(made))

    def test_builtins(self):
        for name, node in nodes(ast.Name):
            if hasattr(builtins, node.id):
                self.assertIn(node.id, BUILTINS, name)

    def test_no_name_of_a_builtin_is_bound(self):
        for name, tree in trees():
            self.assertEqual([bound for bound in bound_names(tree) if hasattr(builtins, bound)], [], name)

    def test_no_variable_is_called_like_an_import_or_a_class(self):
        for name, tree in trees():
            imports = [alias.name for node in tree.body if isinstance(node, ast.ImportFrom) for alias in node.names]
            classes = [node.name for node in tree.body if isinstance(node, ast.ClassDef)]
            bound = list(bound_names(tree))
            self.assertEqual([word for word in imports if word in bound], [], name)
            self.assertEqual([word for word in classes if bound.count(word) > 1], [], name)

    def test_names_with_underscores(self):
        for name, tree in trees():
            wrong = [word for word in bound_names(tree) if not re.fullmatch(r"_?[A-Za-z][A-Za-z0-9_]*|_", word)]
            self.assertEqual(wrong, [], name)


class SyntaxTest(unittest.TestCase):
    def test_module_level(self):
        kinds = (ast.Expr, ast.ImportFrom, ast.FunctionDef, ast.ClassDef, ast.Assign)
        for name, tree in trees():
            for node in tree.body:
                self.assertIsInstance(node, kinds, name)
                self.assertTrue(not isinstance(node, ast.Expr) or node is tree.body[0], name)

    def test_statements_and_expressions_that_are_not_allowed(self):
        barred = (ast.Global, ast.AsyncFunctionDef, ast.Await, ast.Div)
        self.assertEqual(nodes(barred), [])

    def test_literals(self):
        for name, node in nodes(ast.Constant):
            self.assertNotIsInstance(node.value, (float, complex), name)
            self.assertFalse(isinstance(node.value, str) and chr(37) in node.value, name)

    def test_generator_expressions_stand_where_they_may(self):
        for name, node in nodes(ast.Call):
            if isinstance(node.func, ast.Name) and node.func.id in LIST_TAKERS:
                self.assertEqual([arg for arg in node.args if isinstance(arg, ast.GeneratorExp)], [], name)

    def test_sets_are_only_measured_sorted_and_asked(self):
        self.assertEqual(self.sets_in_other_places(), [])

    def sets_in_other_places(self):
        """All files with a set that is no argument of `len` or `sorted`, without keywords, and not behind `in`."""
        found = []
        for name, tree in trees():
            right = []
            for node in ast.walk(tree):
                if isinstance(node, ast.Call) and isinstance(node.func, ast.Name) and not node.keywords:
                    right += node.args if node.func.id in ("len", "sorted") else []
                if isinstance(node, ast.Compare) and isinstance(node.ops[-1], (ast.In, ast.NotIn)):
                    right.append(node.comparators[-1])
            for node in ast.walk(tree):
                called = isinstance(node, ast.Call) and isinstance(node.func, ast.Name) and node.func.id == "set"
                if (called or isinstance(node, (ast.Set, ast.SetComp))) and node not in right:
                    found.append((name, node.lineno))
        return found

    def test_only_own_errors_are_caught(self):
        for name, node in nodes(ast.ExceptHandler):
            self.assertTrue(issubclass(getattr(errors, node.type.id), errors.PlateError), name)

    def test_no_sort_in_place(self):
        self.assertEqual([name for name, node in nodes(ast.Attribute) if node.attr == "sort"], [])

    def test_decorators_and_methods(self):
        for name, node in nodes(ast.FunctionDef):
            for decorator in node.decorator_list:
                word = decorator.id if isinstance(decorator, ast.Name) else decorator.attr
                self.assertIn(word, DECORATORS, name)
            if node.name.startswith("__"):
                self.assertIn(node.name, METHODS, name)

    def test_classes(self):
        for name, node in nodes(ast.ClassDef):
            self.assertEqual(node.decorator_list + node.keywords, [], name)
            kinds = (ast.FunctionDef, ast.Assign, ast.Expr)
            self.assertEqual([part for part in node.body if not isinstance(part, kinds)], [], name)


if __name__ == "__main__":
    unittest.main()
