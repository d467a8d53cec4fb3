"""The package keeps to the small part of the language it is written in, as far as a look at its files tells."""

import ast
import builtins
import pathlib
import re
import unittest

PACKAGE = pathlib.Path(__file__).resolve().parent.parent / "beststretch"
WORDS_NOT_USED = re.compile(
    r"\b(type|typing|typing_extensions|enum|Enum|IntEnum|StrEnum|Flag|IntFlag|Generic|Protocol|ABC|ABCMeta|namedtuple"
    r"|NamedTuple|TypedDict|TYPE_CHECKING|abstractmethod)\b|dataclass|overload|contextmanager"
)
OWN_NAMES = set(
    "len range enumerate zip min max sum abs sorted reversed int str bool list tuple dict set frozenset isinstance ord"
    " repr any all divmod Exception ValueError KeyError IndexError LookupError ZeroDivisionError ArithmeticError"
    " OverflowError RuntimeError NotImplementedError StopIteration".split()
)
PARTS_NOT_USED = (
    ast.With, ast.Match, ast.Delete, ast.Global, ast.Nonlocal, ast.Assert, ast.Yield, ast.YieldFrom, ast.Await,
    ast.AsyncFunctionDef, ast.AsyncFor, ast.AsyncWith, ast.SetComp, ast.DictComp, ast.GeneratorExp, ast.NamedExpr,
    ast.Starred, ast.Div, ast.MatMult, ast.Import, ast.AnnAssign,
)
METHODS = set(
    "append clear copy count endswith extend find get index insert isalnum isalpha isdigit islower isspace isupper"
    " items join keys ljust lower lstrip partition pop remove replace reverse rfind rjust rpartition rsplit rstrip"
    " setdefault split splitlines startswith strip update upper values zfill bit_length".split()
)


def files():
    return sorted(PACKAGE.glob("*.py"))


def parts(file):
    return list(ast.walk(ast.parse(file.read_text(encoding="ascii"))))


class Form(unittest.TestCase):
    def test_only_plain_files_lie_in_the_package(self):
        for file in PACKAGE.iterdir():
            if file.name != "__pycache__":
                self.assertRegex(file.name, r"^([a-z][a-z0-9_]*|__init__|__main__)\.py$")

    def test_signs_and_sizes(self):
        for file in files():
            text = file.read_bytes().decode("ascii")
            self.assertRegex(text, r"\A[ -~\n]*\Z", file.name)
            self.assertLessEqual(len(text.splitlines()), 400, file.name)
            self.assertLessEqual(max(map(len, text.splitlines())), 120, file.name)
            self.assertIsNone(WORDS_NOT_USED.search(text), file.name)

    def test_functions_are_short_and_plain(self):
        for file in files():
            for part in parts(file):
                if isinstance(part, ast.FunctionDef):
                    with self.subTest(file=file.name, name=part.name):
                        self.assertLessEqual(part.end_lineno - part.lineno + 1, 40)
                        self.assertEqual(part.decorator_list, [])
                        self.assertFalse(part.args.vararg or part.args.kwarg or part.args.kwonlyargs)

    def test_imports_are_of_the_package_alone(self):
        for file in files():
            for part in parts(file):
                if isinstance(part, ast.ImportFrom):
                    self.assertEqual(part.level, 0)
                    self.assertRegex(part.module, r"^beststretch\.[a-z_]+$")
                    self.assertTrue(all(one.name != "*" and one.asname is None for one in part.names))

    def test_no_part_of_the_language_beyond_the_small_one(self):
        for file in files():
            for part in parts(file):
                self.assertNotIsInstance(part, PARTS_NOT_USED, (file.name, getattr(part, "lineno", 0)))
                if isinstance(part, ast.Constant):
                    self.assertNotIsInstance(part.value, (float, complex, bytes), (file.name, part.lineno))
                if isinstance(part, ast.Assign):
                    self.assertEqual(len(part.targets), 1, (file.name, part.lineno))

    def test_of_pythons_own_names_only_the_listed_ones(self):
        pythons = set(dir(builtins))
        for file in files():
            for part in parts(file):
                if isinstance(part, ast.Name):
                    self.assertFalse(part.id in pythons - OWN_NAMES, (file.name, part.lineno, part.id))
                    self.assertFalse(isinstance(part.ctx, ast.Store) and part.id in pythons, (file.name, part.id))
                    self.assertFalse(part.id.startswith("_"), (file.name, part.lineno, part.id))

    def test_no_parameter_and_no_local_takes_a_name_that_is_there(self):
        for file in files():
            found = parts(file)
            taken = set(dir(builtins))
            taken |= {one.name for part in found if isinstance(part, ast.ImportFrom) for one in part.names}
            taken |= {part.name for part in found if isinstance(part, ast.ClassDef)}
            bound = {part.arg for part in found if isinstance(part, ast.arg)}
            bound |= {part.id for part in found if isinstance(part, ast.Name) and isinstance(part.ctx, ast.Store)}
            self.assertEqual(bound & taken, set(), file.name)

    def test_methods_are_the_listed_ones_or_the_packages_own(self):
        found = [part for file in files() for part in parts(file)]
        classes = [part for part in found if isinstance(part, ast.ClassDef)]
        own = {part.name for one in classes for part in one.body if isinstance(part, ast.FunctionDef)}
        calls = [part.func for part in found if isinstance(part, ast.Call)]
        called = {part.attr for part in calls if isinstance(part, ast.Attribute)}
        self.assertEqual(called - METHODS - own, set())
        stored = {part.attr for part in found if isinstance(part, ast.Attribute) and isinstance(part.ctx, ast.Store)}
        self.assertEqual(stored & own, set())
        for kind in (str, int, list, dict, set, tuple, bytes):
            self.assertEqual((stored | own - {"__init__"}) & set(dir(kind)), set())

    def test_no_else_behind_a_loop_and_is_beside_none_true_and_false_alone(self):
        for file in files():
            for part in parts(file):
                if isinstance(part, (ast.For, ast.While)):
                    self.assertEqual(part.orelse, [], (file.name, part.lineno))
                if isinstance(part, ast.Compare):
                    for sign, other in zip(part.ops, part.comparators):
                        if isinstance(sign, (ast.Is, ast.IsNot)):
                            self.assertIsInstance(other, ast.Constant, (file.name, part.lineno))

    def test_no_two_files_draw_from_one_another(self):
        drawn = {}
        for file in files():
            found = [part.module for part in parts(file) if isinstance(part, ast.ImportFrom)]
            drawn["beststretch." + file.stem] = set(found)
        while drawn:
            ends = [name for name, others in drawn.items() if not others & set(drawn)]
            self.assertNotEqual(ends, [], drawn)
            drawn = {name: others for name, others in drawn.items() if name not in ends}
