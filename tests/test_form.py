"""The form of the package's files: those rules of the language that a plain look can tell."""

import ast
import pathlib
import re
import unittest
import warnings

PACKAGE = pathlib.Path(__file__).resolve().parent.parent / "creelway"
WORDS_OUT = (
    "type", "typing", "typing_extensions", "enum", "Enum", "IntEnum", "StrEnum", "Flag", "IntFlag", "Generic",
    "Protocol", "ABC", "ABCMeta", "namedtuple", "NamedTuple", "TypedDict", "TYPE_CHECKING", "abstractmethod",
)
PARTS_OUT = ("dataclass", "overload", "contextmanager")
NODES_OUT = (
    ast.GeneratorExp, ast.NamedExpr, ast.With, ast.AsyncWith, ast.Match, ast.Global, ast.Nonlocal, ast.Yield,
    ast.YieldFrom, ast.Await, ast.AsyncFor, ast.AsyncFunctionDef, ast.Div, ast.MatMult, ast.Import,
)
NAMES_IN = (
    "len", "range", "enumerate", "zip", "min", "max", "sum", "abs", "sorted", "reversed", "int", "str", "bool",
    "bytes", "list", "tuple", "dict", "set", "isinstance", "ord", "repr", "any", "all", "divmod", "ValueError",
    "KeyError", "IndexError", "LookupError", "ZeroDivisionError", "StopIteration",
)

VALUES_OUT = (
    "items", "keys", "values", "pop", "update", "append", "clear", "extend", "insert", "remove", "reverse",
    "setdefault", "sort", "args", "encode", "decode", "hex", "fromhex", "format",
)
METHODS_IN = (
    "append", "count", "extend", "get", "items", "join", "pop", "remove", "removeprefix", "setdefault", "split",
    "values",
)


def files():
    return sorted(path for path in PACKAGE.rglob("*") if path.is_file() and "__pycache__" not in path.parts)


def sources():
    return [(path.name, path.read_bytes().decode("ascii")) for path in files()]


def trees():
    return [(name, ast.parse(source)) for name, source in sources()]


def names_given(tree):
    """Every name that a file gives: its defs, classes, parameters, locals and those drawn in."""
    given = set()
    for node in ast.walk(tree):
        if isinstance(node, (ast.FunctionDef, ast.ClassDef)):
            given.add(node.name)
        elif isinstance(node, ast.arg):
            given.add(node.arg)
        elif isinstance(node, ast.alias):
            given.add(node.asname or node.name)
        elif isinstance(node, ast.ExceptHandler) and node.name:
            given.add(node.name)
        elif isinstance(node, ast.Name) and isinstance(node.ctx, ast.Store):
            given.add(node.id)
    return given


def drawn_names(tree):
    """The names that a file draws in, and its classes."""
    classes = {node.name for node in ast.walk(tree) if isinstance(node, ast.ClassDef)}
    return classes | {node.name for node in ast.walk(tree) if isinstance(node, ast.alias)}


def local_names(tree):
    """The parameters, the names that defs give, and those of handlers."""
    found = set()
    for top in ast.walk(tree):
        if isinstance(top, ast.FunctionDef):
            for node in ast.walk(top):
                if isinstance(node, ast.arg):
                    found.add(node.arg)
                elif isinstance(node, ast.Name) and isinstance(node.ctx, ast.Store):
                    found.add(node.id)
                elif isinstance(node, ast.ExceptHandler) and node.name:
                    found.add(node.name)
    return found


def draws():
    """For each file those that it draws from."""
    return {
        name.removesuffix(".py"): [
            node.module.split(".")[1] for node in ast.walk(tree) if isinstance(node, ast.ImportFrom)
        ]
        for name, tree in trees()
    }


class Form(unittest.TestCase):
    def test_plain_files_alone_lie_in_the_package(self):
        self.assertIn("__init__.py", [path.name for path in files()])
        for path in files():
            self.assertRegex(path.name, r"^(__init__|__main__|[a-z][a-z0-9_]*)\.py$")

    def test_sizes_and_signs(self):
        for name, source in sources():
            self.assertRegex(source, r"\A[ -~\n]*\Z", name)
            self.assertLessEqual(len(source.splitlines()), 400, name)
            self.assertLessEqual(max(len(line) for line in source.splitlines()), 120, name)

    def test_functions_have_at_most_40_lines(self):
        for name, tree in trees():
            for node in ast.walk(tree):
                if isinstance(node, ast.FunctionDef):
                    self.assertLessEqual(node.end_lineno - node.lineno + 1, 40, (name, node.name))

    def test_words_that_stand_nowhere(self):
        for name, source in sources():
            words = set(re.findall(r"\w+", source))
            self.assertFalse(words & set(WORDS_OUT), name)
            self.assertFalse([part for part in PARTS_OUT if part in source], name)

    def test_forms_that_stand_nowhere(self):
        for name, tree in trees():
            for node in ast.walk(tree):
                self.assertNotIsInstance(node, NODES_OUT, (name, getattr(node, "lineno", 0)))
                if isinstance(node, ast.Constant):
                    self.assertNotIsInstance(node.value, (float, complex), name)
                    self.assertFalse(isinstance(node.value, str) and "%" in node.value, name)
                if isinstance(node, (ast.FunctionDef, ast.ClassDef)):
                    self.assertEqual(node.decorator_list, [], name)
                if isinstance(node, ast.FormattedValue):
                    self.assertIsNone(node.format_spec, name)

    def test_the_packages_own_modules_alone_are_drawn(self):
        for name, tree in trees():
            for node in ast.walk(tree):
                if isinstance(node, ast.ImportFrom):
                    self.assertRegex(node.module or "", r"^creelway\.[a-z_]+$", name)
                    self.assertEqual(node.level, 0, name)

    def test_no_two_files_draw_from_one_another(self):
        rest = draws()
        while rest:
            free = [name for name, others in rest.items() if not [other for other in others if other in rest]]
            self.assertTrue(free, rest)
            rest = {name: others for name, others in rest.items() if name not in free}

    def test_names_are_drawn_from_the_file_that_defines_them(self):
        defined = {}
        for name, tree in trees():
            given = [node.name for node in tree.body if isinstance(node, (ast.FunctionDef, ast.ClassDef))]
            given += [node.targets[0].id for node in tree.body if isinstance(node, ast.Assign)]
            defined[name.removesuffix(".py")] = given
        for name, tree in trees():
            for node in ast.walk(tree):
                if isinstance(node, ast.ImportFrom):
                    for alias in node.names:
                        self.assertIn(alias.name, defined[node.module.split(".")[1]], name)
                        self.assertIsNone(alias.asname, name)

    def test_no_local_is_called_like_what_is_drawn_or_like_a_class(self):
        for name, tree in trees():
            self.assertEqual(drawn_names(tree) & local_names(tree), set(), name)

    def test_no_name_is_a_method_and_a_value(self):
        methods, values, asked = set(), set(), set()
        for name, tree in trees():
            for node in ast.walk(tree):
                if isinstance(node, ast.ClassDef):
                    methods |= {part.name for part in node.body if isinstance(part, ast.FunctionDef)}
                if isinstance(node, ast.Attribute) and isinstance(node.ctx, ast.Store):
                    values.add(node.attr)
                elif isinstance(node, ast.Attribute):
                    asked.add(node.attr)
        self.assertEqual(methods & values, set())
        self.assertEqual(values & set(VALUES_OUT), set())
        self.assertEqual(asked - methods - values - set(METHODS_IN), set())

    def test_names(self):
        for name, tree in trees():
            given = names_given(tree)
            self.assertFalse(given & (set(NAMES_IN) | {"open", "input", "hash", "id", "next", "map", "round"}), name)
            for word in given - {"__init__"}:
                self.assertRegex(word, r"^[A-Za-z][A-Za-z0-9_]*$", name)
            for node in ast.walk(tree):
                if isinstance(node, ast.Name) and isinstance(node.ctx, ast.Load):
                    self.assertIn(node.id, given | set(NAMES_IN), name)

    def test_python_reads_each_file_without_a_warning(self):
        with warnings.catch_warnings():
            warnings.simplefilter("error")
            for name, source in sources():
                compile(source, name, "exec")


if __name__ == "__main__":
    unittest.main()
