"""Rules of LANGUAGE.md that a test can see: how the files of the package are written."""

import ast
import pathlib
import re
import unittest

PACKAGE = pathlib.Path(__file__).resolve().parent.parent / "offside"
INTERFACE = {
    "errors": {
        "OffsideError", "InvalidWord", "InvalidBook", "InvalidText", "InvalidState", "InvalidRow", "InvalidDemand",
        "InvalidOperation", "ParseError", "UnknownWord", "Impossible", "NothingToUndo", "TooMany", "Refused",
        "NoColumns", "InvalidNumber", "Broken",
    },
    "base.words": {"is_integer", "is_word", "is_column", "is_line", "is_signs"},
    "base.books": {"Book"},
}
BUILTINS = set("""
    len range enumerate zip min max sum abs sorted reversed int str bool list tuple dict set isinstance ord repr any
    all divmod pow iter next map Exception ValueError TypeError KeyError IndexError LookupError ZeroDivisionError
    ArithmeticError OverflowError RuntimeError StopIteration NotImplemented property classmethod staticmethod super
""".split())
METHODS = set("""
    append clear copy count endswith extend find get index insert isalnum isalpha isdigit islower isspace isupper
    items join keys ljust lower lstrip partition pop remove replace reverse rfind rjust rpartition rsplit rstrip
    setdefault split splitlines startswith strip update upper values zfill bit_length title capitalize swapcase
    casefold center expandtabs removeprefix removesuffix rindex isascii isdecimal isnumeric istitle isidentifier
    isprintable translate add discard sort format
""".split())
BARRED_NAMES = {"register", "mro", "elements", "open", "input", "law", "version_info", "with_traceback", "add_note"}
BARRED_WORDS = re.compile(r"\b(type|typing|typing_extensions|[Ee]num|IntEnum|StrEnum|Flag|IntFlag|Generic|Protocol|ABC"
                          r"|ABCMeta|namedtuple|NamedTuple|TypedDict|TYPE_CHECKING|abstractmethod)\b")
TAKERS = {"any", "all", "sum", "min", "max", "sorted", "set"}
LIBRARY = {
    "heapq": {"heappush", "heappop", "heapify", "heapreplace", "heappushpop"},
    "math": {"gcd", "lcm", "isqrt", "comb", "perm", "factorial"},
    "itertools": {"chain", "accumulate", "pairwise", "islice", "zip_longest"},
    "collections": {"defaultdict"},
}


def files():
    return sorted(PACKAGE.rglob("*.py"))


def trees():
    return [(path, ast.parse(path.read_text("utf-8"))) for path in files()]


def every(kind):
    return [(path, node) for path, tree in trees() for node in ast.walk(tree) if isinstance(node, kind)]


def bound_names(tree):
    """All names that a file binds anywhere."""
    names = set()
    for node in ast.walk(tree):
        if isinstance(node, ast.Name) and not isinstance(node.ctx, ast.Load):
            names.add(node.id)
        if isinstance(node, (ast.FunctionDef, ast.ClassDef)):
            names.add(node.name)
        if isinstance(node, ast.arg):
            names.add(node.arg)
        if isinstance(node, ast.alias):
            names.add(node.asname or node.name)
        if isinstance(node, ast.ExceptHandler) and node.name:
            names.add(node.name)
    return names


def defined_names(tree):
    """The names that a file defines at its module level, imports left out."""
    names = {node.name for node in tree.body if isinstance(node, (ast.FunctionDef, ast.ClassDef))}
    return names | {node.targets[0].id for node in tree.body if isinstance(node, ast.Assign)}


class TestFiles(unittest.TestCase):
    def test_names(self):
        self.assertLessEqual(len(files()), 100)
        for path in PACKAGE.rglob("*"):
            if "__pycache__" not in path.parts:
                self.assertRegex(path.name, r"^[a-z0-9_]+(\.py)?$")
                self.assertTrue(path.is_dir() or path.suffix == ".py", path)
                self.assertTrue(not path.is_dir() or (path / "__init__.py").is_file(), path)
                self.assertFalse(path.name.startswith(("test", "law_", "site")), path)

    def test_sizes_and_characters(self):
        for path in files():
            text = path.read_text("utf-8")
            self.assertRegex(text, r"\A[\n -~]*\Z", path)
            self.assertLessEqual(len(text.splitlines()), 399, path)
            self.assertLessEqual(max(map(len, text.splitlines())), 120, path)
        for path, node in every(ast.FunctionDef):
            self.assertLessEqual(node.end_lineno - node.lineno + 1, 40, (path, node.name))

    def test_interface_is_defined_in_its_file(self):
        for module, names in INTERFACE.items():
            path = PACKAGE.joinpath(*module.split(".")).with_suffix(".py")
            self.assertLessEqual(names, defined_names(ast.parse(path.read_text("utf-8"))), module)


class TestCode(unittest.TestCase):
    def test_imports(self):
        self.assertEqual([path for path, _ in every(ast.Import) if path.name != "__main__.py"], [])
        for path, node in every(ast.ImportFrom):
            names = {item.name for item in node.names}
            if node.module in LIBRARY:
                self.assertLessEqual(names, LIBRARY[node.module], path)
            elif node.module != "__future__":
                self.assertTrue(node.level == 0 and node.module.startswith("offside."), path)
                source = PACKAGE.parent.joinpath(*node.module.split(".")).with_suffix(".py")
                self.assertLessEqual(names, defined_names(ast.parse(source.read_text("utf-8"))), path)

    def test_builtins(self):
        for path, tree in trees():
            bound = bound_names(tree)
            self.assertEqual(bound & (BUILTINS | BARRED_NAMES | {"print", "hash", "id", "vars", "dir"}), set(), path)
            used = {node.id for node in ast.walk(tree) if isinstance(node, ast.Name)}
            if path.name != "__main__.py":
                self.assertLessEqual(used - bound, BUILTINS, path)

    def test_methods(self):
        own = {node.name for _, node in every(ast.FunctionDef)}
        for path, node in every(ast.Call):
            if isinstance(node.func, ast.Attribute):
                self.assertIn(node.func.attr, METHODS | own, (path, node.lineno))

    def test_statements(self):
        barred = (ast.Global, ast.AsyncFunctionDef, ast.AsyncFor, ast.AsyncWith, ast.Await)
        self.assertEqual(every(barred), [])
        for path, node in every(ast.FunctionDef):
            for decorator in node.decorator_list:
                self.assertIn(ast.unparse(decorator).split(".")[-1],
                              ("property", "setter", "staticmethod", "classmethod"), (path, node.name))

    def test_no_floats(self):
        self.assertEqual([path for path, node in every(ast.Constant) if isinstance(node.value, float)], [])
        self.assertEqual([path for path, node in every(ast.Div)], [])

    def test_is(self):
        for path, node in every(ast.Compare):
            if any(isinstance(operator, (ast.Is, ast.IsNot)) for operator in node.ops):
                side = node.comparators[0]
                self.assertIn(getattr(side, "value", "?"), (None, True, False), (path, node.lineno))

    def test_lists_where_lists_are_asked_for(self):
        for path, node in every(ast.Call):
            if isinstance(node.func, ast.Name) and node.func.id in TAKERS:
                kinds = [item for item in node.args if isinstance(item, ast.GeneratorExp)]
                self.assertEqual(kinds, [], (path, node.lineno))

    def test_barred_words(self):
        for path, node in every(ast.Constant):
            if isinstance(node.value, str):
                self.assertNotIn("%", node.value, (path, node.lineno))
        for path, tree in trees():
            names = bound_names(tree) | {node.attr for node in ast.walk(tree) if isinstance(node, ast.Attribute)}
            self.assertEqual({name for name in names if BARRED_WORDS.search(name)}, set(), path)
            self.assertEqual(names & BARRED_NAMES, set(), path)

    def test_module_level(self):
        allowed = (ast.FunctionDef, ast.ClassDef, ast.ImportFrom, ast.Assign, ast.Expr)
        for path, tree in trees():
            for node in tree.body:
                if path.name != "__main__.py":
                    self.assertIsInstance(node, allowed, (path, node.lineno))
                if isinstance(node, ast.Expr):
                    self.assertIs(node, tree.body[0], (path, node.lineno))


if __name__ == "__main__":
    unittest.main()
