"""The rules of LANGUAGE.md that can be read off the files without much ado; not all of them can."""

import ast
import builtins
import os
import re
import unittest

FOLDER = os.path.join(os.path.dirname(os.path.abspath(__file__)), os.pardir, "palmhall")

BUILTINS = set(
    "len range enumerate zip min max sum abs sorted reversed int str bool bytes list tuple dict set "
    "frozenset isinstance ord repr any all divmod iter next super property staticmethod classmethod "
    "Exception ValueError TypeError KeyError IndexError LookupError ZeroDivisionError ArithmeticError "
    "OverflowError RuntimeError NotImplementedError AttributeError StopIteration NotImplemented".split()
)
BARRED_NAMES = set(
    "register mro elements open input version_info with_traceback add_note format format_map".split()
)
BARRED_WORDS = re.compile(
    r"\b(type|typing|typing_extensions|enum|Enum|IntEnum|StrEnum|Flag|IntFlag|Generic|Protocol|ABC|ABCMeta"
    r"|namedtuple|NamedTuple|TypedDict|TYPE_CHECKING|abstractmethod)\b|dataclass|overload|contextmanager"
)
BARRED_NODES = (
    ast.Global, ast.AsyncFunctionDef, ast.AsyncFor, ast.AsyncWith, ast.Await, ast.Div, ast.MatMult, ast.Import,
)
# L25, those that a package without bytes has use for; L26, what no attribute is called.
BUILTIN_METHODS = set(
    "append clear copy count endswith extend find get index insert isalnum isalpha isdigit islower isspace isupper "
    "items join keys ljust lower lstrip partition pop remove replace reverse rfind rjust rpartition rsplit rstrip "
    "setdefault split splitlines startswith strip update upper values zfill bit_length title capitalize swapcase "
    "casefold center expandtabs removeprefix removesuffix rindex isascii isdecimal isnumeric istitle isidentifier "
    "isprintable add discard sort".split()
)
BARRED_ATTRIBUTES = set(
    "items keys values pop update append clear extend insert remove reverse setdefault sort args encode decode hex "
    "fromhex format as_integer_ratio bit_count conjugate from_bytes is_integer to_bytes real imag numerator "
    "denominator".split()
)
DOUBLE = re.compile(r"__[a-z]+__\Z")


def package_files():
    return sorted(name for name in os.listdir(FOLDER) if name != "__pycache__")


def read(name):
    with open(os.path.join(FOLDER, name), encoding="utf-8", newline="") as file:
        return file.read()


def names_in(tree):
    """Every name that the file gives or uses, with its row."""
    for node in ast.walk(tree):
        for field in ("id", "name", "attr", "arg", "asname"):
            name = getattr(node, field, None)
            if isinstance(name, str):
                yield name, node


def bound_names(tree):
    """Names that the file gives a meaning: what is assigned, loops' names, parameters, functions, classes."""
    for node in ast.walk(tree):
        if isinstance(node, ast.Name) and not isinstance(node.ctx, ast.Load):
            yield node.id
        elif isinstance(node, ast.arg):
            yield node.arg
        elif isinstance(node, (ast.MatchAs, ast.MatchStar)) and node.name:
            yield node.name
    for node in tree.body:
        if isinstance(node, (ast.FunctionDef, ast.ClassDef)):
            yield node.name


def imported_names(tree):
    """What the file imports from the package: (module, name), and by which name it is used."""
    for node in tree.body:
        if isinstance(node, ast.ImportFrom) and node.module != "__future__":
            for alias in node.names:
                yield node.module, alias.name, alias.asname or alias.name


def given_names(tree):
    """What the file itself defines at module level."""
    given = [node.targets[0].id for node in tree.body if isinstance(node, ast.Assign)]
    return given + [node.name for node in tree.body if isinstance(node, (ast.FunctionDef, ast.ClassDef))]


def package_trees():
    return [(name, ast.parse(read(name))) for name in package_files()]


def methods_of(trees):
    """The names of all methods, class by class."""
    for name, tree in trees:
        for node in ast.walk(tree):
            if isinstance(node, ast.ClassDef):
                yield [part.name for part in node.body if isinstance(part, ast.FunctionDef)]


def attributes_of(trees, *contexts):
    """The names of all attributes that are read, or assigned."""
    return {
        node.attr for name, tree in trees for node in ast.walk(tree)
        if isinstance(node, ast.Attribute) and isinstance(node.ctx, contexts)
    }


class Language(unittest.TestCase):
    def test_files(self):
        self.assertIn("__init__.py", package_files())
        for name in package_files():
            self.assertRegex(name, r"\A(__init__|__main__|[a-z][a-z0-9_]*)\.py\Z")

    def test_lines_and_characters(self):
        for name in package_files():
            with self.subTest(name):
                text = read(name)
                rows = text.split("\n")
                self.assertLessEqual(len(rows), 401)
                self.assertLessEqual(max(len(row) for row in rows), 120)
                self.assertRegex(text, r"\A[ -~\n]*\Z")
                self.assertIsNone(BARRED_WORDS.search(text))

    def test_functions_are_short(self):
        for name, tree in package_trees():
            for node in ast.walk(tree):
                if isinstance(node, ast.FunctionDef):
                    self.assertLessEqual(node.end_lineno - node.lineno + 1, 40, f"{name}: {node.name}")

    def test_imports(self):
        for name, tree in package_trees():
            for node in ast.walk(tree):
                if isinstance(node, ast.ImportFrom):
                    self.assertIn(node, tree.body)
                    self.assertEqual(node.level, 0)
                    self.assertRegex(node.module, r"\A(palmhall\.[a-z_]+|__future__)\Z")
                    self.assertNotIn("*", [alias.name for alias in node.names])

    def test_module_level(self):
        for name, tree in package_trees():
            for at, node in enumerate(tree.body):
                if at == 0 and ast.get_docstring(tree) is not None:
                    continue
                self.assertIsInstance(node, (ast.ImportFrom, ast.FunctionDef, ast.ClassDef, ast.Assign))
            given = given_names(tree) + [used for module, word, used in imported_names(tree)]
            self.assertEqual(len(set(given)), len(given), name)

    def test_each_import_names_the_file_that_defines_it(self):
        trees = dict(package_trees())
        for name, tree in trees.items():
            for module, word, used in imported_names(tree):
                self.assertIn(word, given_names(trees[module.split(".")[1] + ".py"]), name)
                self.assertNotIn(used, list(bound_names(tree)), name)

    def test_no_two_files_import_from_each_other(self):
        ahead = {
            name: {module.split(".")[1] + ".py" for module, word, used in imported_names(tree)}
            for name, tree in package_trees()
        }
        while ahead:
            # A file can be set down once all that it imports from is; in a ring none ever can.
            ready = [name for name in ahead if not ahead[name] & set(ahead)]
            self.assertTrue(ready, sorted(ahead))
            ahead = {name: ahead[name] for name in ahead if name not in ready}

    def test_methods_and_attributes(self):
        trees = package_trees()
        for names in methods_of(trees):
            self.assertEqual(len(set(names)), len(names))
        methods = {name for names in methods_of(trees) for name in names}
        assigned = attributes_of(trees, ast.Store, ast.Del)
        self.assertFalse(assigned & methods)
        self.assertFalse(assigned & BARRED_ATTRIBUTES)
        self.assertLessEqual(attributes_of(trees, ast.Load), assigned | methods | BUILTIN_METHODS)

    def test_handlers_name_own_errors(self):
        errors = given_names(ast.parse(read("errors.py")))
        for name, tree in package_trees():
            for node in ast.walk(tree):
                if isinstance(node, ast.ExceptHandler):
                    self.assertIn(getattr(node.type, "id", None), errors, name)
                if isinstance(node, ast.Raise) and node.exc is not None:
                    self.assertIn(node.exc.func.id, errors, name)

    def test_functions_stand_at_module_level_or_in_classes(self):
        # The package has no use for nested functions, decorators, defaults and stars.
        for name, tree in package_trees():
            near = [node for part in tree.body for node in [part] + getattr(part, "body", [])]
            for node in ast.walk(tree):
                if isinstance(node, ast.FunctionDef):
                    self.assertIn(node, near, f"{name}: {node.name}")
                    self.assertFalse(node.decorator_list)
                    told = node.args
                    self.assertFalse(told.posonlyargs + told.kwonlyargs + told.defaults)
                    self.assertIsNone(told.vararg or told.kwarg)

    def test_tables_are_only_read(self):
        for name, tree in package_trees():
            tables = {
                node.targets[0].id for node in tree.body
                if isinstance(node, ast.Assign) and isinstance(node.value, (ast.List, ast.Dict))
            }
            for node in ast.walk(tree):
                if isinstance(node, ast.Subscript) and not isinstance(node.ctx, ast.Load):
                    self.assertNotIn(getattr(node.value, "id", None), tables, name)
                if isinstance(node, (ast.Return, ast.Assign)):
                    self.assertNotIn(getattr(node.value, "id", None), tables, name)

    def test_statements_and_values(self):
        for name, tree in package_trees():
            for node in ast.walk(tree):
                self.assertNotIsInstance(node, BARRED_NODES, name)
                if isinstance(node, ast.Constant):
                    self.assertNotIsInstance(node.value, (float, complex))
                    if isinstance(node.value, str):
                        self.assertNotIn(chr(37), node.value)
                if isinstance(node, ast.Compare):
                    for op, right in zip(node.ops, node.comparators):
                        if isinstance(op, (ast.Is, ast.IsNot)):
                            self.assertIn(getattr(right, "value", 0), (None, True, False))

    def test_names(self):
        every = set(dir(builtins))
        for name, tree in package_trees():
            for word, node in names_in(tree):
                self.assertNotIn(word, BARRED_NAMES, name)
                if not DOUBLE.match(word):
                    self.assertRegex(word, r"\A[A-Za-z][A-Za-z0-9_.]*\Z")
                if isinstance(node, ast.Name) and word in every:
                    self.assertIn(word, BUILTINS, name)
            self.assertFalse(set(bound_names(tree)) & every, name)


if __name__ == "__main__":
    unittest.main()
