"""Rules of LANGUAGE.md that a test can see: how the files of the package are written."""

import ast
import pathlib
import re
import unittest

PACKAGE = pathlib.Path(__file__).resolve().parent.parent / "offside"
INTERFACE = {
    "errors": {
        "OffsideError", "InvalidWord", "InvalidBook", "InvalidText", "InvalidState", "InvalidRow", "InvalidDemand",
        "InvalidOperation", "ParseError", "UnknownWord", "Impossible", "NothingToUndo", "TooMany", "Refused",
        "NoColumns", "InvalidNumber", "Broken",
    },
    "base.words": {"is_integer", "is_word", "is_column", "is_line", "is_signs"},
    "base.books": {"Book"},
    "base.texts": {"MAX_LINES", "Text"},
    "read.reading": {"REASONS", "Reading", "is_row"},
    "read.states": {
        "MAX_PILE", "is_state", "is_regular", "class_of", "are_alike", "text_to", "telling", "is_telling",
        "states_upto",
    },
    "effect.pauses": {"Effect"},
    "effect.alike": {"is_alike", "alike_paper", "is_alike_paper", "least_parting"},
    "demand.rows": {"is_sign_rows", "is_demand", "first_impossible", "Wanted"},
    "demand.columns": {"System", "is_chain", "is_ring", "span"},
    "demand.changes": {
        "MAX_WEIGHT", "price", "is_flow", "worth", "least_change", "is_change", "line_moved", "repaired",
    },
    "demand.places": {"joint", "portable", "is_portable", "menu", "shifts", "stops", "is_stops", "pastes"},
    "book.order": {
        "does_extend", "do_agree", "parting_text", "is_parting", "variants", "reading_so", "least_books",
        "greatest_books",
    },
    "tower.tower": {"Tower"},
    "use.project": {"MAX_PINS", "MAX_CHANGES", "Project"},
    "text.texts": {
        "write_row", "read_row", "write_columns", "read_columns", "write_system", "read_system", "write_state",
        "read_state",
    },
    "text.shell": {"Shell"},
}
BUILTINS = set("""
    len range enumerate zip min max sum abs sorted reversed int str bool list tuple dict set isinstance ord repr any
    all divmod pow iter next map Exception ValueError TypeError KeyError IndexError LookupError ZeroDivisionError
    ArithmeticError OverflowError RuntimeError StopIteration NotImplemented property classmethod staticmethod super
""".split())
METHODS = set("""
    append clear copy count endswith extend find get index insert isalnum isalpha isdigit islower isspace isupper
    items join keys ljust lower lstrip partition pop remove replace reverse rfind rjust rpartition rsplit rstrip
    setdefault split splitlines startswith strip update upper values zfill bit_length title capitalize swapcase
    casefold center expandtabs removeprefix removesuffix rindex isascii isdecimal isnumeric istitle isidentifier
    isprintable translate add discard sort format
""".split())
BARRED_NAMES = {"register", "mro", "elements", "open", "input", "law", "version_info", "with_traceback", "add_note"}
BARRED_WORDS = re.compile(r"\b(type|typing|typing_extensions|[Ee]num|IntEnum|StrEnum|Flag|IntFlag|Generic|Protocol|ABC"
                          r"|ABCMeta|namedtuple|NamedTuple|TypedDict|TYPE_CHECKING|abstractmethod)\b")
TAKERS = {"any", "all", "sum", "min", "max", "sorted", "set"}
LIBRARY = {
    "heapq": {"heappush", "heappop", "heapify", "heapreplace", "heappushpop"},
    "math": {"gcd", "lcm", "isqrt", "comb", "perm", "factorial"},
    "itertools": {"chain", "accumulate", "pairwise", "islice", "zip_longest"},
    "collections": {"defaultdict"},
}


def files():
    return sorted(PACKAGE.rglob("*.py"))


def trees():
    return [(path, ast.parse(path.read_text("utf-8"))) for path in files()]


def every(kind):
    return [(path, node) for path, tree in trees() for node in ast.walk(tree) if isinstance(node, kind)]


def bound_names(tree):
    """All names that a file binds anywhere."""
    names = set()
    for node in ast.walk(tree):
        if isinstance(node, ast.Name) and not isinstance(node.ctx, ast.Load):
            names.add(node.id)
        if isinstance(node, (ast.FunctionDef, ast.ClassDef)):
            names.add(node.name)
        if isinstance(node, ast.arg):
            names.add(node.arg)
        if isinstance(node, ast.alias):
            names.add(node.asname or node.name)
        if isinstance(node, ast.ExceptHandler) and node.name:
            names.add(node.name)
    return names


def imported_names(tree):
    """The names that a file imports."""
    return {item.name for node in tree.body if isinstance(node, ast.ImportFrom) for item in node.names}


def local_names(tree):
    """The names of all parameters, variables and nested functions of the functions of a file."""
    names = set()
    for function in ast.walk(tree):
        if isinstance(function, (ast.FunctionDef, ast.Lambda)):
            nodes = [node for node in ast.walk(function) if node is not function]
            names |= {node.arg for node in nodes if isinstance(node, ast.arg)}
            names |= {node.id for node in nodes if isinstance(node, ast.Name) and not isinstance(node.ctx, ast.Load)}
            names |= {node.name for node in nodes if isinstance(node, ast.FunctionDef)}
    return names


def methods_with(kind):
    """All methods, or those with a decorator of this name, as pairs of a path and a node."""
    found = []
    for path, node in every(ast.ClassDef):
        for method in node.body:
            if isinstance(method, ast.FunctionDef):
                decorators = [ast.unparse(item) for item in method.decorator_list]
                if (kind == "" and not decorators) or kind in decorators:
                    found.append((path, method))
    return found


def defined_names(tree):
    """The names that a file defines at its module level, imports left out."""
    names = {node.name for node in tree.body if isinstance(node, (ast.FunctionDef, ast.ClassDef))}
    return names | {node.targets[0].id for node in tree.body if isinstance(node, ast.Assign)}


class TestFiles(unittest.TestCase):
    def test_names(self):
        self.assertLessEqual(len(files()), 100)
        for path in PACKAGE.rglob("*"):
            if "__pycache__" not in path.parts:
                self.assertRegex(path.name, r"^[a-z0-9_]+(\.py)?$")
                self.assertTrue(path.is_dir() or path.suffix == ".py", path)
                self.assertTrue(not path.is_dir() or (path / "__init__.py").is_file(), path)
                self.assertFalse(path.name.startswith(("test", "law_", "site")), path)

    def test_sizes_and_characters(self):
        for path in files():
            text = path.read_text("utf-8")
            self.assertRegex(text, r"\A[\n -~]*\Z", path)
            self.assertLessEqual(len(text.splitlines()), 399, path)
            self.assertLessEqual(max(map(len, text.splitlines())), 120, path)
        for path, node in every(ast.FunctionDef):
            self.assertLessEqual(node.end_lineno - node.lineno + 1, 40, (path, node.name))

    def test_interface_is_defined_in_its_file(self):
        for module, names in INTERFACE.items():
            path = PACKAGE.joinpath(*module.split(".")).with_suffix(".py")
            self.assertLessEqual(names, defined_names(ast.parse(path.read_text("utf-8"))), module)


class TestCode(unittest.TestCase):
    def test_imports(self):
        self.assertEqual([path for path, _ in every(ast.Import) if path.name != "__main__.py"], [])
        for path, node in every(ast.ImportFrom):
            names = {item.name for item in node.names}
            if node.module in LIBRARY:
                self.assertLessEqual(names, LIBRARY[node.module], path)
            elif node.module != "__future__":
                self.assertTrue(node.level == 0 and node.module.startswith("offside."), path)
                source = PACKAGE.parent.joinpath(*node.module.split(".")).with_suffix(".py")
                self.assertLessEqual(names, defined_names(ast.parse(source.read_text("utf-8"))), path)

    def test_no_import_in_a_circle(self):
        needs = {}
        for path, tree in trees():
            name = ".".join(path.relative_to(PACKAGE.parent).with_suffix("").parts)
            needs[name] = {node.module for node in tree.body if isinstance(node, ast.ImportFrom)
                           and node.module.startswith("offside")}
        while needs:
            free = [name for name in needs if not needs[name] & set(needs)]
            self.assertTrue(free, sorted(needs))
            for name in free:
                del needs[name]

    def test_imports_are_used(self):
        for path, tree in trees():
            used = {node.id for node in ast.walk(tree) if isinstance(node, ast.Name)}
            self.assertLessEqual(imported_names(tree), used, path)

    def test_local_names(self):
        for path, tree in trees():
            classes = {node.name for node in tree.body if isinstance(node, ast.ClassDef)}
            self.assertEqual(local_names(tree) & (imported_names(tree) | classes), set(), path)

    def test_names_of_properties_and_methods(self):
        properties = {method.name for _, method in methods_with("property")}
        own = {method.name for kind in ("", "classmethod", "staticmethod") for _, method in methods_with(kind)}
        stored = {node.attr for _, node in every(ast.Attribute) if isinstance(node.ctx, ast.Store)}
        self.assertEqual([properties & own, properties & stored, own & stored], [set(), set(), set()])
        plain = {method.name for _, method in methods_with("")}
        self.assertEqual(plain & {method.name for _, method in methods_with("classmethod")}, set())

    def test_names_of_generators(self):
        names = [node.name for _, node in every(ast.FunctionDef)]
        for path, node in every(ast.FunctionDef):
            if any(isinstance(item, (ast.Yield, ast.YieldFrom)) for item in ast.walk(node)):
                self.assertEqual(names.count(node.name), 1, (path, node.name))

    def test_iterated_classes(self):
        for path, node in every(ast.ClassDef):
            names = {item.name for item in node.body if isinstance(item, ast.FunctionDef)}
            self.assertTrue("__iter__" in names or "__getitem__" not in names, (path, node.name))

    def test_builtins(self):
        for path, tree in trees():
            bound = bound_names(tree)
            self.assertEqual(bound & (BUILTINS | BARRED_NAMES | {"print", "hash", "id", "vars", "dir"}), set(), path)
            used = {node.id for node in ast.walk(tree) if isinstance(node, ast.Name)}
            if path.name != "__main__.py":
                self.assertLessEqual(used - bound, BUILTINS, path)

    def test_methods(self):
        own = {node.name for _, node in every(ast.FunctionDef)}
        for path, node in every(ast.Call):
            if isinstance(node.func, ast.Attribute):
                self.assertIn(node.func.attr, METHODS | own, (path, node.lineno))

    def test_statements(self):
        barred = (ast.Global, ast.AsyncFunctionDef, ast.AsyncFor, ast.AsyncWith, ast.Await)
        self.assertEqual(every(barred), [])
        for path, node in every(ast.FunctionDef):
            for decorator in node.decorator_list:
                self.assertIn(ast.unparse(decorator).split(".")[-1],
                              ("property", "setter", "staticmethod", "classmethod"), (path, node.name))

    def test_no_floats(self):
        self.assertEqual([path for path, node in every(ast.Constant) if isinstance(node.value, float)], [])
        self.assertEqual([path for path, node in every(ast.Div)], [])

    def test_is(self):
        for path, node in every(ast.Compare):
            if any(isinstance(operator, (ast.Is, ast.IsNot)) for operator in node.ops):
                side = node.comparators[0]
                self.assertIn(getattr(side, "value", "?"), (None, True, False), (path, node.lineno))

    def test_lists_where_lists_are_asked_for(self):
        for path, node in every(ast.Call):
            if isinstance(node.func, ast.Name) and node.func.id in TAKERS:
                kinds = [item for item in node.args if isinstance(item, ast.GeneratorExp)]
                self.assertEqual(kinds, [], (path, node.lineno))

    def test_barred_words(self):
        for path, node in every(ast.Constant):
            if isinstance(node.value, str):
                self.assertNotIn("%", node.value, (path, node.lineno))
        for path, tree in trees():
            names = bound_names(tree) | {node.attr for node in ast.walk(tree) if isinstance(node, ast.Attribute)}
            self.assertEqual({name for name in names if BARRED_WORDS.search(name)}, set(), path)
            self.assertEqual(names & BARRED_NAMES, set(), path)

    def test_module_level(self):
        allowed = (ast.FunctionDef, ast.ClassDef, ast.ImportFrom, ast.Assign, ast.Expr)
        for path, tree in trees():
            for node in tree.body:
                if path.name != "__main__.py":
                    self.assertIsInstance(node, allowed, (path, node.lineno))
                if isinstance(node, ast.Expr):
                    self.assertIs(node, tree.body[0], (path, node.lineno))


if __name__ == "__main__":
    unittest.main()
