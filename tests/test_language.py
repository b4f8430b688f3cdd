"""Some of the rules of the language that the package is written in, as far as its syntax tells them."""
import ast
import builtins
import functools
import pathlib
import re
import unittest

FOLDER = pathlib.Path(__file__).resolve().parent.parent / "graftworth"
FILES = sorted(path for path in FOLDER.rglob("*") if "__pycache__" not in path.parts and path.is_file())
LIBRARY = {
    "heapq": {"heappush", "heappop", "heapify", "heapreplace", "heappushpop"},
    "math": {"gcd", "lcm", "isqrt", "comb", "perm", "factorial"},
    "itertools": {"product", "combinations", "permutations", "chain", "accumulate", "pairwise", "islice", "zip_longest"},
    "collections": {"defaultdict"},
}
CALLED = set(
    "len range enumerate zip min max sum abs sorted reversed int str bool list tuple dict set isinstance ord repr any all"
    " divmod pow getattr hasattr setattr iter next map super".split()
)
METHODS = set(
    "append clear copy count endswith extend find get index insert isalnum isalpha isdigit islower isspace isupper items"
    " join keys ljust lower lstrip partition pop remove replace reverse rfind rjust rpartition rsplit rstrip setdefault"
    " split splitlines startswith strip update upper values zfill bit_length title capitalize swapcase casefold center"
    " expandtabs removeprefix removesuffix rindex isascii isdecimal isnumeric istitle isidentifier isprintable translate"
    " sort add discard".split()
)
BARRED = set(
    "register mro elements open input law version_info with_traceback add_note breakpoint compile dir eval exec exit gc"
    " globals help id locals os quit type vars sys".split()
)
ERRORS = set(
    "Exception ValueError TypeError KeyError IndexError LookupError ZeroDivisionError ArithmeticError OverflowError"
    " RuntimeError NotImplementedError AttributeError StopIteration NotImplemented".split()
)
DOUBLE = set(
    "__init__ __eq__ __repr__ __str__ __len__ __enter__ __exit__ __call__ __iter__ __lt__ __le__ __gt__ __ge__ __ne__"
    " __add__ __sub__ __mul__ __neg__ __bool__ __contains__ __getitem__ __setitem__".split()
)
BARRED_WORDS = r"\b(type|typing|enum|Enum|Generic|Protocol|ABC|namedtuple|NamedTuple|abstractmethod)\b|dataclass|overload"


@functools.lru_cache(maxsize=None)
def trees():
    return [(path, ast.parse(path.read_text(encoding="utf-8"))) for path in FILES]


def bound_names(tree):
    methods = [method for node in ast.walk(tree) if isinstance(node, ast.ClassDef) for method in node.body]
    for node in ast.walk(tree):
        if isinstance(node, (ast.FunctionDef, ast.ClassDef)) and node not in methods:
            yield node.name
        elif isinstance(node, ast.arg):
            yield node.arg
        elif isinstance(node, ast.Name) and isinstance(node.ctx, ast.Store):
            yield node.id


def own_names():
    return {node.name for _, tree in trees() for node in ast.walk(tree) if isinstance(node, (ast.FunctionDef, ast.ClassDef))}


class Language(unittest.TestCase):
    def test_files(self):
        self.assertIn(FOLDER / "__init__.py", FILES)
        for path in FILES:
            self.assertRegex(path.name, r"^[a-z_0-9]+\.py$")
            self.assertEqual(path.parent, FOLDER)
            self.assertNotIn(path.stem, dir(builtins))

    def test_sizes_and_characters(self):
        for path in FILES:
            lines = path.read_text(encoding="utf-8").split("\n")
            self.assertLessEqual(len(lines), 399, path)
            for row, line in enumerate(lines):
                self.assertLessEqual(len(line), 120, (path, row + 1))
                self.assertTrue(all(" " <= sign <= "~" for sign in line), (path, row + 1))

    def test_functions_are_small(self):
        for path, tree in trees():
            for node in ast.walk(tree):
                if isinstance(node, ast.FunctionDef):
                    self.assertLessEqual(node.end_lineno - node.lineno + 1, 40, (path, node.name))
                    self.assertEqual(node.decorator_list, [], (path, node.name))

    def test_imports(self):
        for path, tree in trees():
            for node in ast.walk(tree):
                self.assertNotIsInstance(node, ast.Import, path)
                if isinstance(node, ast.ImportFrom):
                    self.assertIn(node, tree.body, path)
                    self.assertEqual(node.level, 0, path)
                    for name in node.names:
                        self.assertIsNone(name.asname, path)
                        self.check_import(path, node.module, name.name)

    def check_import(self, path, module, name):
        if module in LIBRARY:
            self.assertIn(name, LIBRARY[module], path)
            return
        self.assertRegex(module, r"^graftworth\.[a-z_]+$")
        body = dict(trees())[FOLDER / (module.split(".")[1] + ".py")].body
        defined = [node.name for node in body if isinstance(node, (ast.FunctionDef, ast.ClassDef))]
        defined.extend(node.targets[0].id for node in body if isinstance(node, ast.Assign))
        self.assertIn(name, defined, path)

    def test_no_imports_in_a_circle(self):
        below = {
            path.stem: [node.module.split(".")[1] for node in tree.body
                        if isinstance(node, ast.ImportFrom) and node.module.startswith("graftworth.")]
            for path, tree in trees()
        }
        done = set()
        while len(done) < len(below):
            ready = [name for name, needed in below.items() if name not in done and set(needed) <= done]
            self.assertNotEqual(ready, [], sorted(set(below) - done))
            done.update(ready)

    def test_statements(self):
        allowed = (ast.Assign, ast.ClassDef, ast.FunctionDef, ast.ImportFrom)
        for path, tree in trees():
            for at, node in enumerate(tree.body):
                docstring = at == 0 and isinstance(node, ast.Expr)
                self.assertTrue(docstring or isinstance(node, allowed), (path, node.lineno))
            for node in ast.walk(tree):
                self.assertNotIsInstance(node, (ast.Global, ast.AsyncFunctionDef, ast.Div), path)
                if isinstance(node, ast.Constant):
                    self.assertNotIsInstance(node.value, (float, complex, bytes), path)

    def test_names(self):
        for path, tree in trees():
            imported = [name.name for node in tree.body if isinstance(node, ast.ImportFrom) for name in node.names]
            for name in bound_names(tree):
                self.assertNotIn(name, dir(builtins), path)
                self.assertNotIn(name, BARRED, path)
                self.assertNotIn(name, imported, path)
                self.assertTrue(not name.startswith("__") or name in DOUBLE, (path, name))

    def test_module_level_names_are_bound_once(self):
        for path, tree in trees():
            bound = []
            for node in tree.body:
                if isinstance(node, ast.ImportFrom):
                    bound.extend(name.name for name in node.names)
                elif isinstance(node, ast.Assign):
                    bound.append(node.targets[0].id)
                elif isinstance(node, (ast.FunctionDef, ast.ClassDef)):
                    bound.append(node.name)
            self.assertEqual(sorted(bound), sorted(set(bound)), path)

    def test_builtins_and_methods(self):
        own = own_names()
        for path, tree in trees():
            for node in ast.walk(tree):
                if isinstance(node, ast.Name) and node.id in dir(builtins):
                    self.assertIn(node.id, CALLED | ERRORS, (path, node.lineno))
                if isinstance(node, ast.Call) and isinstance(node.func, ast.Attribute):
                    self.assertIn(node.func.attr, METHODS | own, (path, node.lineno))

    def test_strings(self):
        for path, tree in trees():
            for node in ast.walk(tree):
                if isinstance(node, ast.Constant) and isinstance(node.value, str):
                    self.assertNotIn("%", node.value, (path, node.lineno))
            code = re.sub(r'"""[^"]*"""|#.*', "", path.read_text(encoding="utf-8"))
            self.assertIsNone(re.search(BARRED_WORDS, code), path)

    def test_methods_with_two_underscores(self):
        for path, tree in trees():
            for node in ast.walk(tree):
                if isinstance(node, ast.FunctionDef) and node.name.startswith("__"):
                    self.assertIn(node.name, DOUBLE, path)

    def test_iterated_at_once(self):
        at_once = set("list tuple dict sorted sum any all enumerate zip min max".split())
        for path, tree in trees():
            fine = set()
            for node in ast.walk(tree):
                if isinstance(node, (ast.For, ast.comprehension)):
                    fine.add(node.iter)
                if isinstance(node, ast.Call) and isinstance(node.func, ast.Name) and node.func.id in at_once:
                    fine.update(node.args)
            for node in ast.walk(tree):
                if isinstance(node, ast.Call) and isinstance(node.func, ast.Name):
                    if node.func.id in ("range", "zip", "enumerate", "reversed"):
                        self.assertIn(node, fine, (path, node.lineno))

    def test_no_generators_and_no_stars_before_calls(self):
        for path, tree in trees():
            for node in ast.walk(tree):
                self.assertNotIsInstance(node, (ast.GeneratorExp, ast.Yield, ast.YieldFrom), path)
                if isinstance(node, ast.Starred) and isinstance(node.ctx, ast.Load):
                    self.assertIsInstance(node.value, ast.Name, (path, node.lineno))

    def test_exponents_are_literals(self):
        for path, tree in trees():
            for node in ast.walk(tree):
                if isinstance(node, ast.BinOp) and isinstance(node.op, ast.Pow):
                    self.assertIsInstance(node.right, ast.Constant, (path, node.lineno))
                    self.assertIn(node.right.value, range(65), (path, node.lineno))
