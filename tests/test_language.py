"""The package keeps to the small Python that it is to be written in, as far as a test can see it.

The numbers L1 to L28 are those of LANGUAGE.md; what isn't looked at here isn't free for that.
"""

import ast
import pathlib
import re
import unittest
import warnings

PACKAGE = pathlib.Path(__file__).resolve().parent.parent / "sparecut"
FILES = sorted(path for path in PACKAGE.rglob("*.py"))

BUILTINS = set(
    "len range enumerate zip min max sum abs sorted reversed int str bool bytes list tuple dict set frozenset"
    " isinstance ord repr any all divmod iter next Exception ValueError TypeError KeyError IndexError LookupError"
    " ZeroDivisionError ArithmeticError OverflowError RuntimeError NotImplementedError AttributeError StopIteration"
    " NotImplemented property staticmethod classmethod super".split()
)
METHODS = set(
    "append clear copy count endswith extend find get index insert isalnum isalpha isdigit islower isspace isupper"
    " items join keys ljust lower lstrip partition pop remove replace reverse rfind rjust rpartition rsplit rstrip"
    " setdefault split splitlines startswith strip update upper values zfill bit_length sort add discard"
    " title capitalize swapcase casefold center expandtabs removeprefix removesuffix rindex isascii isdecimal"
    " isnumeric istitle isidentifier isprintable encode decode hex translate".split()
)
BARRED_WORDS = (
    "type typing typing_extensions enum Enum IntEnum StrEnum Flag IntFlag Generic Protocol ABC ABCMeta namedtuple"
    " NamedTuple TypedDict TYPE_CHECKING abstractmethod".split()
)
BARRED_PARTS = "dataclass overload contextmanager".split()
BARRED_NAMES = set(
    "register mro elements open input version_info with_traceback add_note attrgetter breakpoint builtins compile"
    " copyright credits delattr dir eval exec exit gc getattr globals hasattr help id importlib license locals"
    " methodcaller os quit setattr type vars sys".split()
)
BARRED_PIECES = (
    ast.Global, ast.AsyncFunctionDef, ast.AsyncFor, ast.AsyncWith, ast.Await, ast.Div, ast.MatMult,
    ast.Import,
)


def tree_of_file(path):
    return ast.parse(path.read_text(encoding="utf-8"))


def pieces():
    for path in FILES:
        for piece in ast.walk(tree_of_file(path)):
            yield path, piece


def bound_names(piece):
    """The names that a piece of code gives a meaning."""
    if isinstance(piece, (ast.FunctionDef, ast.ClassDef)):
        return [piece.name]
    if isinstance(piece, ast.arg):
        return [piece.arg]
    if isinstance(piece, ast.Name) and not isinstance(piece.ctx, ast.Load):
        return [piece.id]
    if isinstance(piece, ast.alias):
        return [piece.asname or piece.name]
    if isinstance(piece, ast.ExceptHandler) and piece.name:
        return [piece.name]
    return []


def module_names(body):
    """The names that the statements of a module bind at its level, one for each binding."""
    names = []
    for row in body:
        names.extend(bound_names(row))
        if isinstance(row, ast.Assign):
            names.extend(target.id for target in row.targets)
        if isinstance(row, ast.ImportFrom):
            names.extend(name.asname or name.name for name in row.names)
    return names


def own_methods():
    found = set()
    for path, piece in pieces():
        if isinstance(piece, ast.ClassDef):
            found.update(row.name for row in piece.body if isinstance(row, ast.FunctionDef))
    return found


class Files(unittest.TestCase):
    def test_the_folder_holds_plain_files_alone(self):
        self.assertTrue((PACKAGE / "__init__.py").is_file())
        for path in PACKAGE.rglob("*"):
            if path.name == "__pycache__" or path.suffix == ".pyc":
                continue
            self.assertTrue(path.is_file() and re.fullmatch(r"[a-z0-9_]+\.py", path.name), f"L1, L14: {path}")

    def test_characters_and_sizes(self):
        for path in FILES:
            text = path.read_bytes().decode("utf-8")
            self.assertRegex(text, r"\A[ -~\n]*\Z", f"L14: {path}")
            rows = text.split("\n")
            self.assertLessEqual(len(rows), 401, f"L10: {path}")
            for number, row in enumerate(rows, 1):
                self.assertLessEqual(len(row), 120, f"L10: {path}:{number}")
        for path, piece in pieces():
            if isinstance(piece, ast.FunctionDef):
                self.assertLessEqual(piece.end_lineno - piece.lineno + 1, 40, f"L10: {path}:{piece.lineno}")

    def test_barred_words(self):
        for path in FILES:
            text = path.read_text(encoding="utf-8")
            for word in BARRED_WORDS:
                self.assertIsNone(re.search(rf"\b{word}\b", text), f"L17: {path}: {word}")
            for part in BARRED_PARTS:
                self.assertNotIn(part, text, f"L17: {path}")

    def test_no_warnings(self):
        with warnings.catch_warnings():
            warnings.simplefilter("error")
            for path in FILES:
                compile(path.read_text(encoding="utf-8"), str(path), "exec")


class Code(unittest.TestCase):
    def test_imports_are_of_the_package_alone(self):
        for path in FILES:
            for row in tree_of_file(path).body:
                if isinstance(row, ast.ImportFrom):
                    self.assertEqual(row.level, 0, f"L2: {path}:{row.lineno}")
                    self.assertRegex(row.module, r"\Asparecut\.[a-z_]+\Z", f"L2: {path}:{row.lineno}")
                    self.assertTrue((PACKAGE / (row.module.split(".")[1] + ".py")).is_file())
                    self.assertNotIn("*", [name.name for name in row.names], f"L2: {path}:{row.lineno}")

    def test_imports_name_the_file_that_defines_the_name(self):
        for path in FILES:
            for row in tree_of_file(path).body:
                if isinstance(row, ast.ImportFrom):
                    there = tree_of_file(PACKAGE / (row.module.split(".")[1] + ".py"))
                    defined = module_names(part for part in there.body if not isinstance(part, ast.ImportFrom))
                    for name in row.names:
                        self.assertIn(name.name, defined, f"L16: {path}:{row.lineno}")

    def test_no_two_files_import_from_each_other(self):
        above = {}
        for path in FILES:
            above[path.stem] = {
                row.module.split(".")[1] for row in tree_of_file(path).body if isinstance(row, ast.ImportFrom)
            }
        for turn in above:
            for name in above:
                above[name] = above[name].union(*(above[other] for other in above[name]))
        for name in above:
            self.assertNotIn(name, above[name], "L16")

    def test_module_level(self):
        fine = (ast.ImportFrom, ast.FunctionDef, ast.ClassDef, ast.Assign, ast.Expr)
        for path in FILES:
            body = tree_of_file(path).body
            for at, row in enumerate(body):
                self.assertIsInstance(row, fine, f"L3: {path}:{row.lineno}")
                if isinstance(row, ast.Expr):
                    self.assertTrue(at == 0 and isinstance(row.value, ast.Constant), f"L3: {path}:{row.lineno}")
            names = module_names(body)
            self.assertEqual(len(names), len(set(names)), f"L15: {path}")

    def test_barred_statements_and_values(self):
        for path, piece in pieces():
            where = f"{path}:{getattr(piece, 'lineno', '?')}"
            self.assertNotIsInstance(piece, BARRED_PIECES, f"L2, L6, L7: {where}")
            if isinstance(piece, ast.Constant):
                self.assertNotIsInstance(piece.value, (float, complex), f"L7: {where}")
                if isinstance(piece.value, str):
                    self.assertNotIn("%", piece.value, f"L27: {where}")
            if isinstance(piece, ast.Compare):
                for sign, right in zip(piece.ops, piece.comparators):
                    if isinstance(sign, (ast.Is, ast.IsNot)):
                        plain = isinstance(right, ast.Constant) and right.value in (None, True, False)
                        self.assertTrue(plain, f"L20: {where}")
            if isinstance(piece, ast.ExceptHandler):
                self.assertIsNotNone(piece.type, f"L6: {where}")
            if isinstance(piece, ast.Raise) and piece.exc is not None:
                plain = isinstance(piece.exc, ast.Call) and isinstance(piece.exc.func, ast.Name)
                self.assertTrue(plain, f"L19: {where}")

    def test_names(self):
        all_builtins = set(dir(__import__("builtins")))
        allowed = {"__init__", "__eq__", "__repr__", "__str__", "__len__"}
        for path, piece in pieces():
            for name in bound_names(piece):
                where = f"{path}:{getattr(piece, 'lineno', '?')}: {name}"
                self.assertTrue(name in allowed or not name.startswith("_"), f"L12: {where}")
                self.assertNotIn(name, BARRED_NAMES, f"L17: {where}")
                self.assertNotIn(name, all_builtins, f"L8, L15: {where}")

    def test_no_local_name_hides_an_import_or_a_class(self):
        for path in FILES:
            body = tree_of_file(path).body
            above = {name.name for row in body if isinstance(row, ast.ImportFrom) for name in row.names}
            above.update(row.name for row in body if isinstance(row, ast.ClassDef))
            for row in body:
                if isinstance(row, (ast.FunctionDef, ast.ClassDef)):
                    for piece in ast.walk(row):
                        if piece is not row:
                            for name in bound_names(piece):
                                self.assertNotIn(name, above, f"L15: {path}:{row.lineno}")

    def test_names_that_are_read_are_own_or_allowed_builtins(self):
        for path in FILES:
            tree = tree_of_file(path)
            own = {name for piece in ast.walk(tree) for name in bound_names(piece)}
            for piece in ast.walk(tree):
                if isinstance(piece, ast.Name) and isinstance(piece.ctx, ast.Load):
                    self.assertIn(piece.id, own | BUILTINS, f"L8: {path}:{piece.lineno}")

    def test_methods_that_are_called(self):
        own = own_methods()
        for path, piece in pieces():
            if isinstance(piece, ast.Call) and isinstance(piece.func, ast.Attribute):
                self.assertIn(piece.func.attr, METHODS | own, f"L25: {path}:{piece.lineno}")


if __name__ == "__main__":
    unittest.main()
