"""The form of the package's own files, as far as LANGUAGE.md's rules can be seen file by file."""

import ast
import builtins
import re
import unittest
from pathlib import Path

PACKAGE = Path(__file__).resolve().parent.parent / "mixdesks"

STATEMENTS = (
    ast.FunctionDef, ast.ClassDef, ast.ImportFrom, ast.Assign, ast.AugAssign, ast.If, ast.While, ast.For, ast.Return,
    ast.Break, ast.Continue, ast.Pass, ast.Raise, ast.Try, ast.Expr,
)
EXPRESSIONS = (
    ast.Constant, ast.List, ast.Tuple, ast.Dict, ast.Set, ast.BinOp, ast.UnaryOp, ast.Compare, ast.BoolOp, ast.IfExp,
    ast.Call, ast.Attribute, ast.Subscript, ast.Slice, ast.ListComp, ast.Name, ast.Lambda, ast.JoinedStr,
    ast.FormattedValue,
)
OWN_NAMES = set(
    "len range enumerate zip min max sum abs sorted reversed int str bool list tuple dict set frozenset isinstance "
    "ord repr any all divmod Exception ValueError TypeError KeyError IndexError LookupError ZeroDivisionError "
    "ArithmeticError OverflowError RuntimeError NotImplementedError AttributeError StopIteration".split()
)
OUT_NAMES = set(
    "register mro elements open input version_info with_traceback add_note attrgetter breakpoint builtins compile "
    "copyright credits delattr dir eval exec exit gc getattr globals hasattr help id importlib license locals "
    "methodcaller os quit setattr super type vars sys format format_map".split()
)
OUT_WORDS = (
    r"\b(type|typing|typing_extensions|enum|Enum|IntEnum|StrEnum|Flag|IntFlag|Generic|Protocol|ABC|ABCMeta|namedtuple"
    r"|NamedTuple|TypedDict|TYPE_CHECKING|abstractmethod)\b|dataclass|overload|contextmanager"
)
METHODS = set(
    "append clear copy count endswith extend find get index insert isalnum isalpha isdigit islower isspace isupper items "
    "join keys ljust lower lstrip partition pop remove replace reverse rfind rjust rpartition rsplit rstrip setdefault "
    "split splitlines startswith strip update upper values zfill bit_length __init__".split()
)
WALKED_AT_ONCE = ("zip", "enumerate", "reversed", "range")
WALKERS = ("list", "tuple", "dict", "sorted", "sum", "any", "all", "enumerate", "zip", "min", "max")
METHODS_OF_TWO = ("__init__", "__eq__", "__repr__", "__str__", "__len__")


def sources():
    return [(path, path.read_text("utf-8")) for path in sorted(PACKAGE.glob("*.py"))]


def walked():
    for path, source in sources():
        for part in ast.walk(ast.parse(source)):
            yield path.name, part


def bound_names(part):
    if isinstance(part, (ast.FunctionDef, ast.ClassDef)):
        return [part.name]
    if isinstance(part, ast.arg):
        return [part.arg]
    if isinstance(part, ast.Name) and isinstance(part.ctx, ast.Store):
        return [part.id]
    if isinstance(part, ast.ExceptHandler) and part.name:
        return [part.name]
    return []


def defined_names(tree):
    """What a file's top itself gives a name to."""
    names = [part.name for part in tree.body if isinstance(part, (ast.FunctionDef, ast.ClassDef))]
    return names + [part.targets[0].id for part in tree.body if isinstance(part, ast.Assign)]


class FormTest(unittest.TestCase):
    def test_nothing_else_lies_in_the_package(self):
        for path in PACKAGE.iterdir():
            if path.name != "__pycache__":
                self.assertRegex(path.name, r"^(__init__|__main__|[a-z][a-z0-9_]*)\.py$")
        self.assertTrue((PACKAGE / "__init__.py").exists())

    def test_size_and_signs(self):
        for path, source in sources():
            lines = source.split("\n")
            self.assertLessEqual(len(lines) - 1, 400, path)
            for line in lines:
                self.assertRegex(line, r"^[ -~]{0,120}$", path)
            self.assertIsNone(re.search(OUT_WORDS, source), path)

    def test_functions_are_small_and_plain(self):
        for file, part in walked():
            if isinstance(part, ast.FunctionDef):
                self.assertLessEqual(part.end_lineno - part.lineno + 1, 40, (file, part.name))
                self.assertEqual([], part.decorator_list)
                self.assertFalse(part.args.vararg or part.args.kwarg or part.args.kwonlyargs, (file, part.name))

    def test_statements_and_expressions(self):
        for file, part in walked():
            where = (file, getattr(part, "lineno", 0))
            if isinstance(part, ast.stmt):
                self.assertIsInstance(part, STATEMENTS, where)
            if isinstance(part, ast.expr):
                self.assertIsInstance(part, EXPRESSIONS, where)
            if isinstance(part, (ast.For, ast.While)):
                self.assertEqual([], part.orelse, where)
            if isinstance(part, ast.Assign):
                self.assertEqual(1, len(part.targets), where)
                self.assertNotIsInstance(part.targets[0], (ast.Tuple, ast.List), where)
            if isinstance(part, ast.Constant):
                self.assertIn(type(part.value), (int, str, bool, type(None)), where)
                self.assertFalse(isinstance(part.value, str) and "%" in part.value, where)

    def test_tops_are_plain(self):
        for path, source in sources():
            top = ast.parse(source).body
            for part in top[1:] if ast.get_docstring(ast.parse(source)) else top:
                where = (path.name, part.lineno)
                self.assertIsInstance(part, (ast.ImportFrom, ast.FunctionDef, ast.ClassDef, ast.Assign), where)
                if isinstance(part, ast.Assign):
                    ast.literal_eval(part.value)
                if isinstance(part, ast.ClassDef):
                    self.assertTrue(all(isinstance(inner, ast.FunctionDef) for inner in part.body), where)

    def test_only_calls_stand_by_themselves(self):
        for path, source in sources():
            for outer in ast.parse(source).body:
                for part in ast.walk(outer):
                    if isinstance(part, ast.Expr) and part is not outer:
                        self.assertIsInstance(part.value, ast.Call, (path.name, part.lineno))

    def test_names(self):
        every = set(dir(builtins))
        for file, part in walked():
            if isinstance(part, ast.Name):
                self.assertFalse(part.id in every - OWN_NAMES or part.id in OUT_NAMES, (file, part.id))
            if isinstance(part, ast.Attribute):
                self.assertNotIn(part.attr, OUT_NAMES, (file, part.attr))
            for bound in bound_names(part):
                if bound not in METHODS_OF_TWO:
                    self.assertRegex(bound, r"^[A-Za-z][A-Za-z0-9_]*$", file)
                    self.assertFalse(bound in every or bound in OUT_NAMES, (file, bound))

    def test_imports_are_the_packages_own(self):
        for file, part in walked():
            if isinstance(part, ast.ImportFrom):
                self.assertEqual(0, part.level, file)
                self.assertRegex(part.module, r"^mixdesks\.[a-z]+$", file)
                self.assertNotIn("*", [alias.name for alias in part.names], file)

    def test_names_come_from_the_file_that_defines_them_and_files_go_one_way(self):
        trees = {path.stem: ast.parse(source) for path, source in sources()}
        drawn = {file: set() for file in trees}
        for file, tree in trees.items():
            for part in tree.body:
                if isinstance(part, ast.ImportFrom):
                    other = part.module.split(".")[1]
                    drawn[file].add(other)
                    for alias in part.names:
                        self.assertIn(alias.name, defined_names(trees[other]), (file, other))
        while drawn:
            ended = [file for file in drawn if not drawn[file] & set(drawn)]
            self.assertNotEqual([], ended, f"these draw from one another: {sorted(drawn)}")
            drawn = {file: others for file, others in drawn.items() if file not in ended}

    def test_locals_are_not_called_like_imports_or_classes(self):
        for path, source in sources():
            tree = ast.parse(source)
            taken = [alias.name for part in tree.body if isinstance(part, ast.ImportFrom) for alias in part.names]
            taken += [part.name for part in tree.body if isinstance(part, ast.ClassDef)]
            for function in ast.walk(tree):
                if isinstance(function, ast.FunctionDef):
                    bound = [name for part in ast.walk(function) for name in bound_names(part)]
                    self.assertEqual(set(), set(bound) & set(taken), (path.name, function.name))

    def test_methods(self):
        own = {part.name for _, part in walked() if isinstance(part, ast.FunctionDef)}
        for file, part in walked():
            if isinstance(part, ast.Call) and isinstance(part.func, ast.Attribute):
                self.assertIn(part.func.attr, METHODS | own, (file, part.lineno))

    def test_no_name_is_a_method_here_and_a_value_there(self):
        classes = [part for _, part in walked() if isinstance(part, ast.ClassDef)]
        methods = {part.name for each in classes for part in each.body}
        values = {part.attr for _, part in walked() if isinstance(part, ast.Attribute) and isinstance(part.ctx, ast.Store)}
        self.assertEqual(set(), methods & values)
        pythons = set().union(*(dir(kind) for kind in (str, int, list, dict, set, bytes)))
        self.assertEqual({"__init__"}, (methods | values) & pythons)

    def test_is_stands_beside_none_true_and_false(self):
        for file, part in walked():
            if isinstance(part, ast.Compare) and isinstance(part.ops[0], (ast.Is, ast.IsNot)):
                self.assertIn(getattr(part.comparators[0], "value", 0), (None, True, False), (file, part.lineno))

    def test_what_is_walked_is_walked_at_once(self):
        for path, source in sources():
            tree = ast.parse(source)
            at_once = []
            for part in ast.walk(tree):
                if isinstance(part, (ast.For, ast.comprehension)):
                    at_once.append(part.iter)
                if isinstance(part, ast.Call) and isinstance(part.func, ast.Name) and part.func.id in WALKERS:
                    at_once.append(part.args[0])
            for part in ast.walk(tree):
                if isinstance(part, ast.Name) and part.id in WALKED_AT_ONCE:
                    self.assertIn(part, [getattr(walk, "func", None) for walk in at_once], (path.name, part.lineno))


if __name__ == "__main__":
    unittest.main()
