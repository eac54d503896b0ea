"""Checks the package against those rules of its Python subset that a short program can see."""

import ast
import builtins
import pathlib
import re
import unittest

PACKAGE = pathlib.Path(__file__).resolve().parent.parent / "asifone"

BUILTINS = set(
    "len range enumerate zip min max sum abs sorted reversed int str bool list tuple dict set isinstance ord repr"
    " any all divmod super property iter next map ValueError TypeError KeyError IndexError LookupError"
    " ZeroDivisionError NotImplemented".split()
)
METHODS = set(
    "append clear copy count endswith extend find get index insert isalnum isalpha isdigit islower isspace isupper"
    " items join keys ljust lower lstrip partition pop remove replace reverse rfind rjust rpartition rsplit rstrip"
    " setdefault split splitlines startswith strip update upper values zfill bit_length __init__".split()
)
# No attribute has such a name.
OF_BUILTIN_VALUES = set(
    "items keys values pop update append clear extend insert remove reverse setdefault sort args encode decode hex"
    " fromhex format".split()
)
NEVER = set("register mro elements open input law version_info with_traceback add_note".split())
BARRED = set(
    "attrgetter breakpoint builtins compile copyright credits delattr dir eval exec exit gc globals help id importlib"
    " license locals methodcaller os quit setattr type vars sys typing enum Enum Flag Generic Protocol ABC".split()
)


def files():
    return sorted(PACKAGE.glob("*.py"))


def trees():
    return [(path.name, ast.parse(path.read_text(encoding="utf-8"))) for path in files()]


def bound_at_top(tree):
    names = []
    for row in tree.body:
        if isinstance(row, (ast.FunctionDef, ast.ClassDef)):
            names.append(row.name)
        elif isinstance(row, ast.Assign):
            names.extend(target.id for target in row.targets)
        elif isinstance(row, ast.ImportFrom):
            names.extend(alias.name for alias in row.names)
    return names


def functions(tree):
    return [part for part in ast.walk(tree) if isinstance(part, ast.FunctionDef)]


def names_in(function):
    """The parameters and the local names of a function."""
    names = [arg.arg for part in ast.walk(function) if isinstance(part, ast.arguments)
             for arg in part.posonlyargs + part.args + part.kwonlyargs]
    names += [part.id for part in ast.walk(function) if isinstance(part, ast.Name) and isinstance(part.ctx, ast.Store)]
    names += [part.name for part in ast.walk(function) if isinstance(part, ast.ExceptHandler) and part.name]
    return names


class FilesTest(unittest.TestCase):
    def test_only_plain_files(self):
        for path in PACKAGE.iterdir():
            if path.name != "__pycache__":
                self.assertRegex(path.name, r"\A[a-z0-9_]+\.py\Z")

    def test_sizes_and_characters(self):
        for path in files():
            text = path.read_text(encoding="utf-8")
            self.assertIsNone(re.search(r"[^ -~\n]", text), path.name)
            lines = text.split("\n")
            self.assertLess(len(lines), 400, path.name)
            self.assertLessEqual(max(len(line) for line in lines), 120, path.name)

    def test_functions_are_short(self):
        for name, tree in trees():
            for function in functions(tree):
                size = function.end_lineno - function.lineno + 1
                self.assertLessEqual(size, 40, (name, function.name))


class ImportsTest(unittest.TestCase):
    def test_only_of_the_package(self):
        bound = {f"asifone.{path.stem}": bound_at_top(ast.parse(path.read_text())) for path in files()}
        for name, tree in trees():
            own = [alias.name for row in ast.walk(tree) if isinstance(row, ast.ImportFrom) for alias in row.names]
            for row in ast.walk(tree):
                self.assertNotIsInstance(row, ast.Import, name)
                if isinstance(row, ast.ImportFrom):
                    self.assertEqual(row.level, 0, name)
                    for alias in row.names:
                        self.assertIn(alias.name, bound[row.module], name)
                        self.assertIsNone(alias.asname, name)
            text = (PACKAGE / name).read_text()
            for word in own:
                self.assertGreater(len(re.findall(rf"\b{word}\b", text)), 1, (name, word))

    def test_no_circle(self):
        wants = {
            f"asifone.{name[:-3]}": {row.module for row in ast.walk(tree) if isinstance(row, ast.ImportFrom)}
            for name, tree in trees()
        }
        while wants:
            free = [name for name in wants if not wants[name] & set(wants)]
            self.assertTrue(free, wants)
            for name in free:
                del wants[name]


class NamesTest(unittest.TestCase):
    def test_one_binding_at_module_level(self):
        for name, tree in trees():
            names = bound_at_top(tree)
            self.assertEqual(len(names), len(set(names)), name)
            self.assertFalse(set(names) & set(dir(builtins)), name)

    def test_module_level(self):
        allowed = (ast.ImportFrom, ast.FunctionDef, ast.ClassDef, ast.Assign, ast.Expr)
        for name, tree in trees():
            for row in tree.body:
                self.assertIsInstance(row, allowed, name)
                if isinstance(row, ast.Expr):
                    self.assertIsInstance(row.value, ast.Constant, name)

    def test_local_names(self):
        for name, tree in trees():
            taken = {row.name for row in tree.body if isinstance(row, ast.ClassDef)}
            taken |= {alias.name for row in tree.body if isinstance(row, ast.ImportFrom) for alias in row.names}
            for function in functions(tree):
                names = set(names_in(function))
                self.assertFalse(names & taken, (name, function.name))
                self.assertFalse(names & set(dir(builtins)), (name, function.name))
                self.assertFalse(names & (NEVER | BARRED), (name, function.name))

    def test_attributes(self):
        own = {part.name for _, tree in trees() for part in functions(tree)}
        for name, tree in trees():
            for part in ast.walk(tree):
                if isinstance(part, ast.Attribute):
                    self.assertNotIn(part.attr, NEVER, name)
                if isinstance(part, ast.Call) and isinstance(part.func, ast.Attribute):
                    self.assertIn(part.func.attr, METHODS | own, name)

    def test_attributes_that_are_stored(self):
        for name, tree in trees():
            for part in ast.walk(tree):
                if isinstance(part, ast.Attribute) and isinstance(part.ctx, ast.Store):
                    self.assertNotIn(part.attr, OF_BUILTIN_VALUES, name)

    def test_builtins(self):
        for name, tree in trees():
            for part in ast.walk(tree):
                if isinstance(part, ast.Name) and isinstance(part.ctx, ast.Load) and part.id in dir(builtins):
                    self.assertIn(part.id, BUILTINS, name)


class ExpressionsTest(unittest.TestCase):
    def test_no_part_outside_the_subset(self):
        banned = (ast.Global, ast.AsyncFunctionDef, ast.AsyncFor, ast.AsyncWith, ast.Await, ast.Div)
        for name, tree in trees():
            for part in ast.walk(tree):
                self.assertNotIsInstance(part, banned, name)
                if isinstance(part, ast.BinOp) and isinstance(part.op, ast.Pow):
                    self.assertIsInstance(part.right, ast.Constant, name)

    def test_stars_of_calls(self):
        plain = (ast.Name, ast.Attribute, ast.Constant, ast.List, ast.Tuple, ast.Dict)
        for name, tree in trees():
            for part in ast.walk(tree):
                if isinstance(part, ast.Call) and any(isinstance(one, ast.Starred) for one in part.args):
                    for one in part.args:
                        self.assertIsInstance(one.value if isinstance(one, ast.Starred) else one, plain, name)

    def test_constants(self):
        for name, tree in trees():
            for part in ast.walk(tree):
                if isinstance(part, ast.Constant):
                    self.assertNotIsInstance(part.value, (float, complex, bytes), name)
                    if isinstance(part.value, str):
                        self.assertNotIn("%", part.value, name)
                        self.assertNotRegex(part.value, r"\A__.*__\Z", name)
                        self.assertNotRegex(part.value, r"\._+\Z", name)

    def test_is_stands_beside_constants_only(self):
        for name, tree in trees():
            for part in ast.walk(tree):
                if isinstance(part, ast.Compare):
                    for sign, right in zip(part.ops, part.comparators):
                        if isinstance(sign, (ast.Is, ast.IsNot)):
                            self.assertIsInstance(right, ast.Constant, name)
