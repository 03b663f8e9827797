"""The package keeps to a small part of Python, and reaches no clock, chance or file."""

import ast
import builtins
import pathlib
import re
import unittest

PACKAGE = pathlib.Path(__file__).resolve().parent.parent / "grainstore"

OWN_NAMES = set("""
    len range enumerate zip min max sum abs sorted reversed int str bool list tuple dict set frozenset isinstance
    ord repr any all divmod Exception ValueError TypeError KeyError IndexError LookupError ZeroDivisionError
    ArithmeticError OverflowError RuntimeError NotImplementedError AttributeError StopIteration
""".split())

OWN_METHODS = set("""
    append clear copy count endswith extend find get index insert isalnum isalpha isdigit islower isspace isupper
    items join keys ljust lower lstrip partition pop remove replace reverse rfind rjust rpartition rsplit rstrip
    setdefault split splitlines startswith strip update upper values zfill bit_length
""".split())

NEVER = re.compile(r"\b(type|typing|typing_extensions|enum|Enum|IntEnum|StrEnum|Flag|IntFlag|Generic|Protocol|ABC"
                   r"|ABCMeta|namedtuple|NamedTuple|TypedDict|TYPE_CHECKING|abstractmethod)\b"
                   r"|dataclass|overload|contextmanager")

BARRED_PARTS = (ast.With, ast.Match, ast.Delete, ast.Global, ast.Nonlocal, ast.Assert, ast.Yield, ast.YieldFrom,
                ast.AsyncFunctionDef, ast.AsyncFor, ast.AsyncWith, ast.Await, ast.SetComp, ast.DictComp,
                ast.GeneratorExp, ast.NamedExpr, ast.Starred, ast.Div, ast.Import, ast.MatMult)


def package_files():
    return sorted(PACKAGE.rglob("*.py"))


def parts_of(path):
    return list(ast.walk(ast.parse(path.read_text(encoding="utf-8"))))


def parts_of_kind(path, kind):
    return [part for part in parts_of(path) if isinstance(part, kind)]


def names_bound_at_top(path):
    names = set()
    for part in ast.parse(path.read_text(encoding="utf-8")).body:
        if isinstance(part, (ast.FunctionDef, ast.ClassDef)):
            names.add(part.name)
        if isinstance(part, ast.Assign):
            names.update(target.id for target in part.targets)
    return names


class Form(unittest.TestCase):
    def test_the_package_holds_python_files_alone(self):
        self.assertIn("__init__.py", [path.name for path in package_files()])
        for path in PACKAGE.iterdir():
            if path.name != "__pycache__":
                self.assertRegex(path.name, r"\A[a-z0-9_]+\.py\Z")

    def test_signs_and_sizes(self):
        for path in package_files():
            with self.subTest(file=path.name):
                text = path.read_bytes().decode("utf-8")
                self.assertRegex(text, r"\A[ -~\n]*\Z")
                rows = text.split("\n")
                self.assertLessEqual(len(rows), 400)
                self.assertLessEqual(max(len(row) for row in rows), 120)
                for part in parts_of_kind(path, ast.FunctionDef):
                    self.assertLessEqual(part.end_lineno - part.lineno + 1, 40, part.name)

    def test_words_that_stand_nowhere(self):
        for path in package_files():
            with self.subTest(file=path.name):
                self.assertIsNone(NEVER.search(path.read_text(encoding="utf-8")))

    def test_imports_are_the_packages_own(self):
        for path in package_files():
            with self.subTest(file=path.name):
                for part in parts_of_kind(path, ast.ImportFrom):
                    self.assertEqual((part.level, part.module.split(".")[0]), (0, "grainstore"))
                    self.assertNotIn("*", [name.name for name in part.names])

    def test_no_two_files_draw_from_one_another(self):
        drawn = {path.stem: {part.module.split(".")[1] for part in parts_of_kind(path, ast.ImportFrom)}
                 for path in package_files()}
        while drawn:
            free = [name for name in drawn if not drawn[name] & set(drawn)]
            self.assertNotEqual(free, [], drawn)
            for name in free:
                drawn.pop(name)

    def test_each_name_is_drawn_from_the_file_that_defines_it(self):
        for path in package_files():
            for part in parts_of_kind(path, ast.ImportFrom):
                source = PACKAGE / (part.module.split(".")[1] + ".py")
                for name in part.names:
                    with self.subTest(file=path.name, name=name.name):
                        self.assertIn(name.name, names_bound_at_top(source))

    def test_no_parameter_or_local_is_called_like_an_import_a_class_or_a_name_of_pythons_own(self):
        for path in package_files():
            taken = set(dir(builtins))
            for part in parts_of_kind(path, ast.ImportFrom):
                taken.update(name.name for name in part.names)
            taken.update(part.name for part in parts_of_kind(path, ast.ClassDef))
            given = [part.arg for part in parts_of_kind(path, ast.arg)]
            given += [part.id for part in parts_of_kind(path, ast.Name) if isinstance(part.ctx, ast.Store)]
            with self.subTest(file=path.name):
                self.assertEqual(taken & set(given), set())

    def test_no_name_is_a_method_in_one_class_and_a_value_in_another(self):
        methods = set()
        fields = set()
        for path in package_files():
            for kind in parts_of_kind(path, ast.ClassDef):
                methods.update(part.name for part in kind.body if isinstance(part, ast.FunctionDef))
            fields.update(part.attr for part in parts_of_kind(path, ast.Attribute) if isinstance(part.ctx, ast.Store))
        self.assertEqual(methods & fields, set())

    def test_no_barred_statement_or_expression(self):
        for path in package_files():
            with self.subTest(file=path.name):
                for part in parts_of(path):
                    self.assertNotIsInstance(part, BARRED_PARTS)
                    if isinstance(part, (ast.For, ast.While)):
                        self.assertEqual(part.orelse, [])
                    if isinstance(part, ast.Try):
                        self.assertEqual(part.finalbody, [])
                    if isinstance(part, ast.Assign):
                        self.assertEqual(len(part.targets), 1)
                    if isinstance(part, ast.Constant):
                        self.assertNotIsInstance(part.value, (float, complex, bytes))
                    if isinstance(part, (ast.FunctionDef, ast.ClassDef)):
                        self.assertEqual(part.decorator_list, [])

    def test_only_the_allowed_names_of_pythons_own(self):
        for path in package_files():
            with self.subTest(file=path.name):
                for part in parts_of_kind(path, ast.Name):
                    if hasattr(builtins, part.id):
                        self.assertIn(part.id, OWN_NAMES)
                        self.assertIsInstance(part.ctx, ast.Load)
                    self.assertFalse(part.id.startswith("_"), part.id)

    def test_only_the_allowed_methods_of_pythons_own(self):
        own_kinds = (int, str, list, tuple, dict, set, bytes)
        for path in package_files():
            with self.subTest(file=path.name):
                for part in parts_of_kind(path, ast.Attribute):
                    if any(hasattr(kind, part.attr) for kind in own_kinds):
                        self.assertIn(part.attr, OWN_METHODS)


if __name__ == "__main__":
    unittest.main()
