"""The package stays within its subset of Python: those rules that a short look at the code can ask."""

import ast
import builtins
import unittest
from pathlib import Path

PACKAGE = Path(__file__).resolve().parent.parent / "tensorcompiler"

BUILTINS = set((
    "len range enumerate zip min max sum abs sorted reversed int str bool list tuple dict set isinstance ord repr any "
    "all divmod pow iter next Exception ValueError TypeError KeyError IndexError LookupError ZeroDivisionError "
    "ArithmeticError OverflowError RuntimeError NotImplementedError StopIteration NotImplemented").split())

METHODS = set((
    "append clear copy count endswith extend find get index insert isalnum isalpha isdigit islower isspace isupper "
    "items join keys ljust lower lstrip partition pop remove replace reverse rfind rjust rpartition rsplit rstrip "
    "setdefault split splitlines startswith strip update upper values zfill bit_length title capitalize swapcase "
    "casefold center expandtabs removeprefix removesuffix rindex isascii isdecimal isnumeric istitle isidentifier "
    "isprintable add discard sort").split())

LIBRARY = {
    "math": {"gcd", "lcm", "isqrt", "comb", "perm", "factorial"},
    "heapq": {"heappush", "heappop", "heapify", "heapreplace", "heappushpop"},
    "itertools": {
        "product", "combinations", "permutations", "chain", "accumulate", "pairwise", "islice", "zip_longest"},
    "collections": {"defaultdict"},
}

NEVER = set("register mro elements open input law version_info with_traceback add_note".split())

NOT_NAMES = set((
    "attrgetter breakpoint builtins compile copyright credits delattr dir eval exec exit gc getattr globals hasattr "
    "help id importlib license locals methodcaller os quit setattr super type vars sys").split())

WORDS = set((
    "type typing typing_extensions enum Enum IntEnum StrEnum Flag IntFlag Generic Protocol ABC ABCMeta namedtuple "
    "NamedTuple TypedDict TYPE_CHECKING abstractmethod dataclass overload contextmanager").split())

FORBIDDEN = (
    ast.Global, ast.AsyncFunctionDef, ast.AsyncFor, ast.AsyncWith, ast.Await, ast.Div, ast.Import, ast.MatMult)

DOUBLE = {"__init__", "__eq__", "__repr__", "__str__", "__len__", "__enter__", "__exit__", "__call__", "__iter__"}

ITERATING = set((
    "list tuple dict sorted sum any all enumerate zip min max len reversed range permutations").split())

BUILTIN_NAMES = {name for name in dir(builtins) if not name.startswith("_")}


def trees():
    for path in sorted(PACKAGE.rglob("*.py")):
        text = path.read_text(encoding="utf-8")
        yield path, text, ast.parse(text)


TABLES = {item.targets[0].id for _, _, tree in trees() for item in tree.body
          if isinstance(item, ast.Assign) and isinstance(item.value, (ast.Dict, ast.List))}


def own_methods():
    found = set()
    for _, _, tree in trees():
        for item in ast.walk(tree):
            if isinstance(item, ast.ClassDef):
                found.update(one.name for one in item.body if isinstance(one, ast.FunctionDef))
    return found


def bound_names(tree):
    """All names that the tree binds to something, with the lines."""
    for item in ast.walk(tree):
        if isinstance(item, ast.Name) and isinstance(item.ctx, ast.Store):
            yield item.id, item.lineno
        elif isinstance(item, ast.arg):
            yield item.arg, item.lineno
        elif isinstance(item, ast.ExceptHandler) and item.name:
            yield item.name, item.lineno


class Files(unittest.TestCase):
    def test_only_small_plain_files(self):
        for path in PACKAGE.rglob("*"):
            if path.name != "__pycache__" and path.parent.name != "__pycache__":
                self.assertEqual(path.suffix, ".py", path)
                self.assertRegex(path.stem, "^[a-z0-9_]+$")
        for path, text, tree in trees():
            lines = text.split("\n")
            self.assertLess(len(lines), 400, path)
            self.assertFalse([line for line in lines if len(line) > 120 or line.rstrip() != line], path)
            self.assertFalse([sign for sign in text if not (" " <= sign <= "~" or sign == "\n")], path)
            for item in ast.walk(tree):
                if isinstance(item, ast.FunctionDef):
                    self.assertLessEqual(item.end_lineno - item.lineno + 1, 40, (path, item.name))

    def test_module_level(self):
        for path, _, tree in trees():
            for item in tree.body:
                if isinstance(item, ast.Assign):
                    self.assertEqual(len(item.targets), 1)
                    self.assertIsInstance(item.targets[0], ast.Name, path)
                    for part in ast.walk(item.value):
                        self.assertNotIsInstance(part, (ast.Call, ast.Lambda, ast.ListComp, ast.Set), path)
                elif isinstance(item, ast.Expr):
                    self.assertIsInstance(item.value, ast.Constant, path)
                    self.assertIs(item, tree.body[0], path)
                else:
                    self.assertIsInstance(item, (ast.ImportFrom, ast.FunctionDef, ast.ClassDef), path)


class Imports(unittest.TestCase):
    def test_what_is_imported_stands_there_and_is_used(self):
        defined = {}
        for path, _, tree in trees():
            names = set()
            for item in tree.body:
                if isinstance(item, (ast.FunctionDef, ast.ClassDef)):
                    names.add(item.name)
                elif isinstance(item, ast.Assign):
                    names.add(item.targets[0].id)
            defined["tensorcompiler." + path.stem] = names
        for path, _, tree in trees():
            used = {item.id for item in ast.walk(tree) if isinstance(item, ast.Name)}
            for item in tree.body:
                if isinstance(item, ast.ImportFrom):
                    self.assertEqual(item.level, 0, path)
                    there = LIBRARY[item.module] if item.module in LIBRARY else defined[item.module]
                    for alias in item.names:
                        self.assertIsNone(alias.asname)
                        self.assertIn(alias.name, there, path)
                        self.assertIn(alias.name, used, path)

    def test_no_two_files_import_from_each_other(self):
        needs = {}
        for path, _, tree in trees():
            needs[path.stem] = {
                item.module.split(".")[-1] for item in tree.body
                if isinstance(item, ast.ImportFrom) and item.module not in LIBRARY}
        while needs:
            free = [name for name in needs if not needs[name] & set(needs)]
            self.assertTrue(free, f"a circle among {sorted(needs)}")
            for name in free:
                del needs[name]


class Code(unittest.TestCase):
    def test_forbidden_parts(self):
        for path, _, tree in trees():
            for item in ast.walk(tree):
                where = (path.name, getattr(item, "lineno", 0))
                self.assertNotIsInstance(item, FORBIDDEN, where)
                if isinstance(item, ast.Constant):
                    self.assertNotIsInstance(item.value, (float, complex), where)
                    if isinstance(item.value, str):
                        self.assertNotIn("%", item.value, where)
                if isinstance(item, ast.BinOp) and isinstance(item.op, ast.Pow):
                    self.assertIsInstance(item.right, ast.Constant, where)
                if isinstance(item, ast.FunctionDef):
                    for decorator in item.decorator_list:
                        self.assertIn(ast.unparse(decorator).split(".")[-1], ("property", "setter"), where)
                    if item.name.startswith("__"):
                        self.assertIn(item.name, DOUBLE, where)

    def test_builtins_and_methods(self):
        methods = METHODS | own_methods()
        for path, _, tree in trees():
            bound = {name for name, _ in bound_names(tree)}
            decorators = [one for item in ast.walk(tree) if isinstance(item, ast.FunctionDef) for one in item.decorator_list]
            for item in ast.walk(tree):
                if isinstance(item, ast.Name) and item.id == "property" and item in decorators:
                    continue
                if isinstance(item, ast.Name) and item.id in BUILTIN_NAMES and item.id not in BUILTINS:
                    self.fail((path.name, item.lineno, item.id))
                if isinstance(item, ast.Call) and isinstance(item.func, ast.Attribute):
                    self.assertIn(item.func.attr, methods, (path.name, item.lineno))
            self.assertFalse(bound & BUILTIN_NAMES, path)

    def test_names(self):
        for path, text, tree in trees():
            outer = set()
            for item in tree.body:
                if isinstance(item, ast.ImportFrom):
                    outer.update(alias.name for alias in item.names)
                elif isinstance(item, ast.ClassDef):
                    outer.add(item.name)
            for name, line in bound_names(tree):
                self.assertNotIn(name, outer, (path.name, line))
                self.assertNotIn(name, NEVER | NOT_NAMES, (path.name, line))
                self.assertNotRegex(name, "^__|^_wall|^_enum_|^_sre", (path.name, line))
            for item in ast.walk(tree):
                if isinstance(item, ast.Attribute):
                    self.assertNotIn(item.attr, NEVER | {"args", "format"}, (path.name, item.lineno))
                if isinstance(item, (ast.FunctionDef, ast.ClassDef)):
                    self.assertNotIn(item.name, NEVER | NOT_NAMES | BUILTIN_NAMES | {"args"}, path)
            self.assertFalse({item.id for item in ast.walk(tree) if isinstance(item, ast.Name)} & WORDS, path)

    def test_tables_of_the_module_level_are_only_read(self):
        for path, _, tree in trees():
            tables = {item.targets[0].id for item in tree.body
                      if isinstance(item, ast.Assign) and isinstance(item.value, (ast.Dict, ast.List))}
            tables.update(alias.name for item in tree.body if isinstance(item, ast.ImportFrom) for alias in item.names
                          if alias.name in TABLES)
            read = set()
            for item in ast.walk(tree):
                if isinstance(item, (ast.Subscript, ast.Attribute)) and isinstance(item.ctx, ast.Load):
                    read.add(item.value)
                elif isinstance(item, ast.Compare):
                    read.update(item.comparators)
                elif isinstance(item, (ast.For, ast.comprehension)):
                    read.add(item.iter)
            for item in ast.walk(tree):
                if isinstance(item, ast.Name) and isinstance(item.ctx, ast.Load) and item.id in tables:
                    self.assertIn(item, read, (path.name, item.lineno, item.id))

    def test_ranges_and_the_like_are_iterated_on_the_spot(self):
        for path, _, tree in trees():
            iterated = set()
            for item in ast.walk(tree):
                if isinstance(item, (ast.For, ast.comprehension)):
                    iterated.add(item.iter)
                elif isinstance(item, ast.Call) and isinstance(item.func, ast.Name) and item.func.id in ITERATING:
                    iterated.update(item.args)
            for item in ast.walk(tree):
                if isinstance(item, ast.Call):
                    name = item.func.id if isinstance(item.func, ast.Name) else getattr(item.func, "attr", "")
                    if name in ("range", "zip", "enumerate", "reversed", "items", "keys", "values", "permutations"):
                        self.assertIn(item, iterated, (path.name, item.lineno, name))

    def test_what_isinstance_is_asked(self):
        for path, _, tree in trees():
            for item in ast.walk(tree):
                if isinstance(item, ast.Call) and isinstance(item.func, ast.Name) and item.func.id == "isinstance":
                    self.assertIsInstance(item.args[1], (ast.Name, ast.Tuple), (path.name, item.lineno))

    def test_errors_that_are_caught_and_raised(self):
        for path, _, tree in trees():
            for item in ast.walk(tree):
                if isinstance(item, ast.ExceptHandler):
                    self.assertIsNotNone(item.type, path)
                    for name in ast.walk(item.type):
                        if isinstance(name, ast.Name) and name.id in BUILTIN_NAMES:
                            self.assertIn(name.id, ("KeyError", "ZeroDivisionError"), path)
                if isinstance(item, ast.Raise) and item.exc is not None:
                    self.assertIsInstance(item.exc, ast.Call, (path.name, item.lineno))

    def test_everything_at_module_level_is_used_or_public(self):
        for path, text, tree in trees():
            for item in tree.body:
                if isinstance(item, ast.FunctionDef) and item.name.startswith("_"):
                    uses = [one for one in ast.walk(tree) if isinstance(one, ast.Name) and one.id == item.name]
                    self.assertTrue(uses, (path.name, item.name))


if __name__ == "__main__":
    unittest.main()
