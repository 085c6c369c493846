"""The rules of the language that a look at one file, or at the imports, can tell."""

import ast
import unittest
from pathlib import Path

PACKAGE = Path(__file__).resolve().parent.parent / "countfold"

LIBRARY = {"math": {"gcd", "lcm", "isqrt", "comb", "perm", "factorial"},
           "heapq": {"heappush", "heappop", "heapify", "heapreplace", "heappushpop"},
           "itertools": {"product", "combinations", "permutations", "chain", "accumulate", "pairwise", "islice",
                         "zip_longest"},
           "collections": {"defaultdict"}}
BUILTINS = set("""len range enumerate zip min max sum abs sorted reversed int str bool bytes list tuple dict set
    frozenset isinstance ord repr any all divmod pow getattr hasattr setattr iter next map super property staticmethod
    classmethod Exception ValueError TypeError KeyError IndexError LookupError ZeroDivisionError ArithmeticError
    OverflowError RuntimeError NotImplementedError AttributeError StopIteration NotImplemented""".split())
DOUBLE = set("""__init__ __eq__ __repr__ __str__ __len__ __enter__ __exit__ __call__ __iter__""".split())
NEVER = (ast.Global, ast.AsyncFunctionDef, ast.AsyncFor, ast.AsyncWith, ast.Await, ast.Import, ast.Div, ast.MatMult,
         # Allowed in places; the package does without them, as a class of it has an __eq__.
         ast.GeneratorExp)
BARRED = set("""register mro elements open input law version_info with_traceback add_note breakpoint builtins compile
    copyright credits delattr dir eval exec exit gc globals help id importlib license locals os quit type vars sys
    typing enum Enum Generic namedtuple dataclass print chr""".split())


def files():
    return sorted(PACKAGE.glob("*.py"))


def trees():
    return [(path, ast.parse(path.read_text())) for path in files()]


def imports(tree):
    return [row for row in ast.walk(tree) if isinstance(row, ast.ImportFrom)]


def bound(tree):
    """The names that a file gives to its own things."""
    names = [row.name for row in ast.walk(tree) if isinstance(row, (ast.FunctionDef, ast.ClassDef))]
    names += [row.id for row in ast.walk(tree) if isinstance(row, ast.Name) and isinstance(row.ctx, ast.Store)]
    return names + [row.arg for row in ast.walk(tree) if isinstance(row, ast.arg)]


class Files(unittest.TestCase):
    def test_the_folder_holds_python_alone(self):
        others = [path.name for path in PACKAGE.iterdir() if path.suffix != ".py" and path.name != "__pycache__"]
        self.assertEqual(others, [])
        self.assertIn(PACKAGE / "__init__.py", files())

    def test_signs_and_lengths(self):
        for path in files():
            data = path.read_bytes()
            self.assertTrue(all(sign == 10 or 32 <= sign <= 126 for sign in data), path)
            lines = data.decode().split("\n")
            self.assertLessEqual(len(lines), 399, path)
            self.assertLessEqual(max(map(len, lines)), 120, path)

    def test_functions_have_at_most_forty_lines(self):
        for path, tree in trees():
            for row in ast.walk(tree):
                if isinstance(row, ast.FunctionDef):
                    self.assertLessEqual(row.end_lineno - row.lineno + 1, 40, (path, row.name))


class Imports(unittest.TestCase):
    def test_from_the_package_or_the_library(self):
        own = {"countfold." + path.stem for path in files()}
        for path, tree in trees():
            for row in imports(tree):
                self.assertEqual(row.level, 0, path)
                told = {alias.name for alias in row.names}
                self.assertTrue(all(alias.asname is None for alias in row.names), path)
                self.assertTrue(row.module in own or told <= LIBRARY.get(row.module, set()), (path, told))

    def test_what_is_imported_is_used_and_defined_there(self):
        defined = {"countfold." + path.stem: {
            name for row in tree.body for name in ([row.name] if hasattr(row, "name") else
                                                   [t.id for t in getattr(row, "targets", [])])}
            for path, tree in trees()}
        for path, tree in trees():
            used = {row.id for row in ast.walk(tree) if isinstance(row, ast.Name)}
            for row in imports(tree):
                for alias in row.names:
                    self.assertIn(alias.name, used, path)
                    if row.module in defined:
                        self.assertIn(alias.name, defined[row.module], path)

    def test_no_two_files_import_from_each_other(self):
        reached = {"countfold." + path.stem: {row.module for row in imports(tree)} for path, tree in trees()}
        for _ in reached:
            for found in reached.values():
                found |= {far for near in list(found) for far in reached.get(near, ())}
        for module, found in reached.items():
            self.assertNotIn(module, found)


class Words(unittest.TestCase):
    def test_no_barred_construct(self):
        for path, tree in trees():
            for row in ast.walk(tree):
                self.assertNotIsInstance(row, NEVER, (path, getattr(row, "lineno", 0)))
                if isinstance(row, ast.Constant):
                    self.assertNotIsInstance(row.value, (float, complex), path)
                    self.assertNotIn("%", row.value if isinstance(row.value, str) else "", path)
                if isinstance(row, (ast.FunctionDef, ast.ClassDef)):
                    self.assertEqual(row.decorator_list, [], path)
                if isinstance(row, ast.Attribute):
                    self.assertNotEqual(row.attr, "sort", path)

    def test_exponents_are_small_literals(self):
        for path, tree in trees():
            for row in ast.walk(tree):
                if isinstance(row, ast.BinOp) and isinstance(row.op, ast.Pow):
                    self.assertIsInstance(row.right, ast.Constant, path)
                    self.assertIn(row.right.value, range(65), path)

    def test_what_the_library_brings_is_called_by_place(self):
        for path, tree in trees():
            brought = {alias.name for row in imports(tree) if row.module in LIBRARY for alias in row.names}
            calls = [row for row in ast.walk(tree) if isinstance(row, ast.Call) and isinstance(row.func, ast.Name)
                     and row.func.id in brought]
            read = [row for row in ast.walk(tree) if isinstance(row, ast.Name) and row.id in brought]
            self.assertEqual(len(calls), len(read), path)
            self.assertEqual([row for row in calls if row.keywords], [], path)

    def test_no_name_is_an_import_s_as_well(self):
        for path, tree in trees():
            brought = {alias.name for row in imports(tree) for alias in row.names}
            self.assertEqual([name for name in bound(tree) if name in brought], [], path)

    def test_no_barred_name_and_no_builtin_rebound(self):
        for path, tree in trees():
            names = bound(tree)
            self.assertEqual([name for name in names if name in BUILTINS | BARRED], [], path)
            for name in names:
                if name.startswith("__"):
                    self.assertIn(name, DOUBLE, path)

    def test_each_name_that_is_read_is_known(self):
        for path, tree in trees():
            known = set(bound(tree)) | BUILTINS | {alias.name for row in imports(tree) for alias in row.names}
            read = {row.id for row in ast.walk(tree) if isinstance(row, ast.Name)}
            self.assertEqual(read - known, set(), path)

    def test_module_level_holds_plain_things_alone(self):
        for path, tree in trees():
            for at, row in enumerate(tree.body):
                docstring = at == 0 and isinstance(row, ast.Expr)
                plain = isinstance(row, (ast.ImportFrom, ast.FunctionDef, ast.ClassDef, ast.Assign))
                self.assertTrue(docstring or plain, (path, row.lineno))

    def test_a_length_is_returned_as_len(self):
        for path, tree in trees():
            for row in ast.walk(tree):
                if isinstance(row, ast.FunctionDef) and row.name == "__len__":
                    self.assertEqual(row.body[-1].value.func.id, "len", path)


if __name__ == "__main__":
    unittest.main()
