"""The rules of the language that a look at one file, or at the imports, can tell."""

import ast
import builtins
import unittest
from pathlib import Path

PACKAGE = Path(__file__).resolve().parent.parent / "countfold"

LIBRARY = {"math": {"gcd", "lcm", "isqrt", "comb", "perm", "factorial"},
           "heapq": {"heappush", "heappop", "heapify", "heapreplace", "heappushpop"},
           "itertools": {"product", "combinations", "permutations", "chain", "accumulate", "pairwise", "islice",
                         "zip_longest"},
           "collections": {"defaultdict"}}
BUILTINS = set("""len range enumerate zip min max sum abs sorted reversed int str bool bytes list tuple dict set
    frozenset isinstance ord repr any all divmod pow getattr hasattr setattr iter next map super property staticmethod
    classmethod Exception ValueError TypeError KeyError IndexError LookupError ZeroDivisionError ArithmeticError
    OverflowError RuntimeError NotImplementedError AttributeError StopIteration NotImplemented""".split())
DOUBLE = set("""__init__ __eq__ __repr__ __str__ __len__ __enter__ __exit__ __call__ __iter__""".split())
NEVER = (ast.Global, ast.AsyncFunctionDef, ast.AsyncFor, ast.AsyncWith, ast.Await, ast.Import, ast.Div, ast.MatMult,
         # Allowed in places; the package does without them, as a class of it has an __eq__.
         ast.GeneratorExp)
METHODS = set("""append clear copy count endswith extend find get index insert isalnum isalpha isdigit islower isspace
    isupper items join keys ljust lower lstrip partition pop remove replace reverse rfind rjust rpartition rsplit rstrip
    setdefault split splitlines startswith strip update upper values zfill bit_length add discard""".split())
CHANGING = set("append clear extend insert pop remove reverse setdefault update".split())
KEYWORDS = {"sorted": {"key", "reverse"}, "min": {"key", "default"}, "max": {"key", "default"}, "sum": {"start"},
            "enumerate": {"start"}, "zip": {"strict"}}
AT_ONCE = {"zip", "enumerate", "reversed", "range", "map"}
WORDS = set("""type typing typing_extensions enum Enum IntEnum StrEnum Flag IntFlag Generic Protocol ABC ABCMeta
    namedtuple NamedTuple TypedDict TYPE_CHECKING abstractmethod""".split())
BARRED = set("""register mro elements open input law version_info with_traceback add_note breakpoint builtins compile
    copyright credits delattr dir eval exec exit gc globals help id importlib license locals os quit type vars sys
    typing enum Enum Generic namedtuple dataclass print chr""".split())


def files():
    return sorted(PACKAGE.glob("*.py"))


def trees():
    return [(path, ast.parse(path.read_text())) for path in files()]


def imports(tree):
    return [row for row in ast.walk(tree) if isinstance(row, ast.ImportFrom)]


def bound(tree):
    """The names that a file gives to its own things."""
    names = [row.name for row in ast.walk(tree) if isinstance(row, (ast.FunctionDef, ast.ClassDef))]
    names += [row.id for row in ast.walk(tree) if isinstance(row, ast.Name) and isinstance(row.ctx, ast.Store)]
    return names + [row.arg for row in ast.walk(tree) if isinstance(row, ast.arg)]


class Files(unittest.TestCase):
    def test_the_folder_holds_python_alone(self):
        others = [path.name for path in PACKAGE.iterdir() if path.suffix != ".py" and path.name != "__pycache__"]
        self.assertEqual(others, [])
        self.assertIn(PACKAGE / "__init__.py", files())

    def test_signs_and_lengths(self):
        for path in files():
            data = path.read_bytes()
            self.assertTrue(all(sign == 10 or 32 <= sign <= 126 for sign in data), path)
            lines = data.decode().split("\n")
            self.assertLessEqual(len(lines), 399, path)
            self.assertLessEqual(max(map(len, lines)), 120, path)

    def test_functions_have_at_most_forty_lines(self):
        for path, tree in trees():
            for row in ast.walk(tree):
                if isinstance(row, ast.FunctionDef):
                    self.assertLessEqual(row.end_lineno - row.lineno + 1, 40, (path, row.name))


class Imports(unittest.TestCase):
    def test_from_the_package_or_the_library(self):
        own = {"countfold." + path.stem for path in files()}
        for path, tree in trees():
            for row in imports(tree):
                self.assertEqual(row.level, 0, path)
                told = {alias.name for alias in row.names}
                self.assertTrue(all(alias.asname is None for alias in row.names), path)
                self.assertTrue(row.module in own or told <= LIBRARY.get(row.module, set()), (path, told))

    def test_what_is_imported_is_used_and_defined_there(self):
        defined = {"countfold." + path.stem: {
            name for row in tree.body for name in ([row.name] if hasattr(row, "name") else
                                                   [t.id for t in getattr(row, "targets", [])])}
            for path, tree in trees()}
        for path, tree in trees():
            used = {row.id for row in ast.walk(tree) if isinstance(row, ast.Name)}
            for row in imports(tree):
                for alias in row.names:
                    self.assertIn(alias.name, used, path)
                    if row.module in defined:
                        self.assertIn(alias.name, defined[row.module], path)

    def test_no_two_files_import_from_each_other(self):
        reached = {"countfold." + path.stem: {row.module for row in imports(tree)} for path, tree in trees()}
        for _ in reached:
            for found in reached.values():
                found |= {far for near in list(found) for far in reached.get(near, ())}
        for module, found in reached.items():
            self.assertNotIn(module, found)


class Words(unittest.TestCase):
    def test_no_barred_construct(self):
        for path, tree in trees():
            for row in ast.walk(tree):
                self.assertNotIsInstance(row, NEVER, (path, getattr(row, "lineno", 0)))
                if isinstance(row, ast.Constant):
                    self.assertNotIsInstance(row.value, (float, complex), path)
                    self.assertNotIn("%", row.value if isinstance(row.value, str) else "", path)
                if isinstance(row, (ast.FunctionDef, ast.ClassDef)):
                    self.assertEqual(row.decorator_list, [], path)
                if isinstance(row, ast.Attribute):
                    self.assertNotEqual(row.attr, "sort", path)

    def test_exponents_are_small_literals(self):
        for path, tree in trees():
            for row in ast.walk(tree):
                if isinstance(row, ast.BinOp) and isinstance(row.op, ast.Pow):
                    self.assertIsInstance(row.right, ast.Constant, path)
                    self.assertIn(row.right.value, range(65), path)

    def test_what_the_library_brings_is_called_by_place(self):
        for path, tree in trees():
            brought = {alias.name for row in imports(tree) if row.module in LIBRARY for alias in row.names}
            calls = [row for row in ast.walk(tree) if isinstance(row, ast.Call) and isinstance(row.func, ast.Name)
                     and row.func.id in brought]
            read = [row for row in ast.walk(tree) if isinstance(row, ast.Name) and row.id in brought]
            self.assertEqual(len(calls), len(read), path)
            self.assertEqual([row for row in calls if row.keywords], [], path)

    def test_no_name_is_an_import_s_as_well(self):
        for path, tree in trees():
            brought = {alias.name for row in imports(tree) for alias in row.names}
            # A method's name is bound in its class alone.
            methods = {part.name for row in ast.walk(tree) if isinstance(row, ast.ClassDef)
                       for part in row.body if isinstance(part, ast.FunctionDef)}
            self.assertEqual([name for name in bound(tree) if name in brought - methods], [], path)
            variables = [row.id for row in ast.walk(tree) if isinstance(row, ast.Name) and isinstance(row.ctx, ast.Store)]
            variables += [row.arg for row in ast.walk(tree) if isinstance(row, ast.arg)]
            self.assertEqual([name for name in variables if name in brought], [], path)

    def test_no_barred_name_and_no_builtin_rebound(self):
        for path, tree in trees():
            names = bound(tree)
            self.assertEqual([name for name in names if name in BUILTINS | BARRED], [], path)
            for name in names:
                if name.startswith("__"):
                    self.assertIn(name, DOUBLE, path)

    def test_no_name_is_a_builtin_s(self):
        for path, tree in trees():
            self.assertEqual([name for name in bound(tree) if name in dir(builtins)], [], path)

    def test_is_stands_beside_none_and_truths_alone(self):
        for path, tree in trees():
            for row in ast.walk(tree):
                if isinstance(row, ast.Compare) and any(isinstance(op, (ast.Is, ast.IsNot)) for op in row.ops):
                    self.assertIsInstance(row.comparators[-1], ast.Constant, (path, row.lineno))

    def test_methods_are_listed_or_the_package_s_own(self):
        own = {row.name for _, tree in trees() for row in ast.walk(tree) if isinstance(row, ast.FunctionDef)}
        for path, tree in trees():
            for row in ast.walk(tree):
                if isinstance(row, ast.Call) and isinstance(row.func, ast.Attribute):
                    self.assertIn(row.func.attr, METHODS | own, (path, row.lineno))
                    self.assertFalse(row.func.attr in METHODS and row.keywords, (path, row.lineno))

    def test_builtins_are_called_and_with_their_keywords_alone(self):
        for path, tree in trees():
            for row in ast.walk(tree):
                if isinstance(row, ast.Call) and isinstance(row.func, ast.Name) and row.func.id in BUILTINS:
                    told = {word.arg for word in row.keywords}
                    self.assertLessEqual(told, KEYWORDS.get(row.func.id, set()), (path, row.lineno))

    def test_what_is_gone_over_at_once_is_not_kept(self):
        for path, tree in trees():
            for row in ast.walk(tree):
                if isinstance(row, (ast.Assign, ast.Return)) and isinstance(row.value, ast.Call):
                    self.assertNotIn(getattr(row.value.func, "id", ""), AT_ONCE, (path, row.lineno))
                    self.assertNotIn(getattr(row.value.func, "attr", ""), {"items", "keys"}, (path, row.lineno))

    def test_a_loop_does_not_change_what_it_goes_over(self):
        for path, tree in trees():
            for loop in ast.walk(tree):
                if isinstance(loop, ast.For):
                    over = {ast.unparse(part) for part in ast.walk(loop.iter)
                            if isinstance(part, (ast.Name, ast.Attribute)) and not self.is_copied(loop.iter)}
                    for row in [row for part in loop.body for row in ast.walk(part)]:
                        self.assertFalse(self.changed(row) & over, (path, row))

    def is_copied(self, iterated):
        return isinstance(iterated, ast.Call) and getattr(iterated.func, "id", "") in ("list", "sorted", "range")

    def changed(self, row):
        if isinstance(row, ast.Call) and isinstance(row.func, ast.Attribute) and row.func.attr in CHANGING:
            return {ast.unparse(row.func.value)}
        targets = row.targets if isinstance(row, (ast.Assign, ast.Delete)) else [getattr(row, "target", None)]
        return {ast.unparse(target.value) for target in targets if isinstance(target, ast.Subscript)}

    def test_lists_and_dicts_at_module_level_are_read_alone(self):
        for path, tree in trees():
            kept = {row.targets[0].id for row in tree.body if isinstance(row, ast.Assign)
                    and isinstance(row.value, (ast.Dict, ast.List))}
            above = {id(part): row for row in ast.walk(tree) for part in ast.iter_child_nodes(row)}
            for row in ast.walk(tree):
                if isinstance(row, ast.Name) and row.id in kept and isinstance(row.ctx, ast.Load):
                    use = above[id(row)]
                    if isinstance(use, ast.Call):
                        self.assertIn(use.func.id, ("list", "dict", "len", "sorted"), (path, row.lineno))
                    else:
                        self.assertIsInstance(use, (ast.Subscript, ast.Compare, ast.Attribute, ast.For,
                                                    ast.comprehension), (path, row.lineno))

    def test_barred_words(self):
        for path, tree in trees():
            for row in ast.walk(tree):
                names = {getattr(row, "id", ""), getattr(row, "attr", ""), getattr(row, "arg", "")}
                self.assertEqual(names & WORDS, set(), path)

    def test_each_name_that_is_read_is_known(self):
        for path, tree in trees():
            known = set(bound(tree)) | BUILTINS | {alias.name for row in imports(tree) for alias in row.names}
            read = {row.id for row in ast.walk(tree) if isinstance(row, ast.Name)}
            self.assertEqual(read - known, set(), path)

    def test_module_level_holds_plain_things_alone(self):
        for path, tree in trees():
            for at, row in enumerate(tree.body):
                docstring = at == 0 and isinstance(row, ast.Expr)
                plain = isinstance(row, (ast.ImportFrom, ast.FunctionDef, ast.ClassDef, ast.Assign))
                self.assertTrue(docstring or plain, (path, row.lineno))

    def test_no_name_is_a_method_and_an_attribute(self):
        methods, attributes = set(), set()
        for path, tree in trees():
            for row in ast.walk(tree):
                if isinstance(row, ast.ClassDef):
                    self.assertTrue(row.name[0].isalpha(), path)
                    methods |= {part.name for part in row.body if isinstance(part, ast.FunctionDef)}
                if isinstance(row, ast.Attribute) and isinstance(row.ctx, ast.Store):
                    attributes.add(row.attr)
        self.assertEqual(methods & attributes, set())
        self.assertEqual(attributes & METHODS, set())

    def test_an_error_is_made_where_it_is_raised(self):
        for path, tree in trees():
            for row in ast.walk(tree):
                if isinstance(row, ast.Raise):
                    self.assertIsInstance(row.exc, ast.Call, path)
                    self.assertIsInstance(row.exc.func, ast.Name, path)

    def test_a_length_is_returned_as_len(self):
        for path, tree in trees():
            for row in ast.walk(tree):
                if isinstance(row, ast.FunctionDef) and row.name == "__len__":
                    self.assertEqual(row.body[-1].value.func.id, "len", path)


if __name__ == "__main__":
    unittest.main()
