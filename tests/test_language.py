"""What the language subset bars, as far as a look at the files' trees tells it."""

import ast
import builtins
import pathlib
import re
import unittest

FOLDER = pathlib.Path(__file__).resolve().parent.parent / "oncewire"

BUILTINS = set(
    "len range enumerate zip min max sum abs sorted reversed int str bool bytes list tuple dict set frozenset "
    "isinstance ord chr repr any all divmod pow getattr hasattr setattr iter next map super property staticmethod "
    "classmethod Exception ValueError TypeError KeyError IndexError LookupError ZeroDivisionError ArithmeticError "
    "OverflowError RuntimeError NotImplementedError AttributeError StopIteration NotImplemented True False None "
    "__name__ object".split()
) - {"chr"}

METHODS = set(
    "append clear copy count endswith extend find get index insert isalnum isalpha isdigit islower isspace isupper "
    "items join keys ljust lower lstrip partition pop remove replace reverse rfind rjust rpartition rsplit rstrip "
    "setdefault split splitlines startswith strip update upper values zfill bit_length title capitalize swapcase "
    "casefold center expandtabs removeprefix removesuffix rindex isascii isdecimal isnumeric istitle isidentifier "
    "isprintable translate sort format add discard maketrans from_iterable __init__".split()
)

LIBRARY = {
    "heapq": {"heappush", "heappop", "heapify", "heapreplace", "heappushpop"},
    "math": {"gcd", "lcm", "isqrt", "comb", "perm", "factorial"},
    "itertools": {"product", "combinations", "permutations", "chain", "accumulate", "pairwise", "islice", "zip_longest"},
    "collections": {"defaultdict"},
    "__future__": {"annotations"},
}

NOWHERE = "register mro elements open input law version_info with_traceback add_note".split()
NO_NAMES = (
    "attrgetter breakpoint builtins compile copyright credits delattr dir eval exec exit gc globals help id importlib "
    "license locals methodcaller os quit type vars sys"
).split()
NO_WORDS = (
    "type typing typing_extensions enum Enum IntEnum StrEnum Flag IntFlag Generic Protocol ABC ABCMeta namedtuple "
    "NamedTuple TypedDict TYPE_CHECKING abstractmethod dataclass overload contextmanager"
).split()

STATEMENTS = (
    ast.Assign, ast.AugAssign, ast.AnnAssign, ast.If, ast.While, ast.For, ast.Return, ast.Break, ast.Continue, ast.Pass,
    ast.Raise, ast.Assert, ast.Delete, ast.Nonlocal, ast.Match, ast.With, ast.Try, ast.Expr, ast.FunctionDef,
    ast.ClassDef, ast.ImportFrom,
)
ALLOWED_DUNDERS = set(
    "__init__ __eq__ __repr__ __str__ __len__ __enter__ __exit__ __call__ __iter__ __contains__ __getitem__ __setitem__ "
    "__lt__ __le__ __gt__ __ge__ __ne__ __bool__ __neg__ __pos__ __invert__ __abs__ __slots__".split()
)


def files():
    return sorted(path for path in FOLDER.rglob("*") if path.is_file() and "__pycache__" not in path.parts)


def trees():
    return [(path, ast.parse(path.read_text("utf-8"))) for path in files()]


def docstrings(tree):
    """The constants that are docstrings."""
    told = set()
    for node in ast.walk(tree):
        if isinstance(node, (ast.Module, ast.ClassDef, ast.FunctionDef)) and ast.get_docstring(node) is not None:
            told.add(node.body[0].value)
    return told


def functions(tree):
    return [node for node in ast.walk(tree) if isinstance(node, ast.FunctionDef)]


def arguments(node):
    rows = node.args
    more = [one for one in (rows.vararg, rows.kwarg) if one is not None]
    return rows.posonlyargs + rows.args + rows.kwonlyargs + more


class Language(unittest.TestCase):

    def test_files(self):
        self.assertTrue((FOLDER / "__init__.py").is_file())
        for path in files():
            self.assertRegex(path.name, r"^[a-z_0-9]+\.py$")
            self.assertNotRegex(path.name, r"^(test.*|law_.*|site|conftest|sitecustomize|usercustomize)\.py$")
            self.assertTrue(path.stem.startswith("__") or not hasattr(builtins, path.stem), path)
        self.assertLessEqual(len(files()), 100)

    def test_sizes_and_characters(self):
        for path, tree in trees():
            text = path.read_text("utf-8")
            self.assertRegex(text, r"\A[ -~\n]*\Z", path)
            self.assertLessEqual(text.count("\n"), 399, path)
            for number, line in enumerate(text.split("\n"), 1):
                self.assertLessEqual(len(line), 120, (path.name, number))
                self.assertEqual(line.rstrip(), line, (path.name, number))
            for node in functions(tree):
                self.assertLessEqual(node.end_lineno - node.lineno + 1, 40, (path.name, node.name))

    def test_imports(self):
        defined = {}
        for path, tree in trees():
            rows = [node.name for node in tree.body if isinstance(node, (ast.FunctionDef, ast.ClassDef))]
            for node in tree.body:
                if isinstance(node, ast.Assign):
                    rows.extend(target.id for target in node.targets)
            self.assertEqual(len(rows), len(set(rows)), path)
            defined["oncewire." + path.stem] = set(rows)
        needs = {}
        for path, tree in trees():
            told = []
            for node in ast.walk(tree):
                self.assertNotIsInstance(node, ast.Import, path)
                if isinstance(node, ast.ImportFrom):
                    self.assertEqual(node.level, 0)
                    self.assertIn(node, tree.body)
                    known = LIBRARY.get(node.module, defined.get(node.module))
                    self.assertIsNotNone(known, (path.name, node.module))
                    for row in node.names:
                        self.assertIn(row.name, known, (path.name, node.module))
                        self.assertIsNone(row.asname)
                    told.append(node.module)
            needs["oncewire." + path.stem] = [name for name in told if name in defined]
        self.no_ring(needs)

    def no_ring(self, needs):
        left = dict(needs)
        while left:
            free = [name for name in left if not [need for need in left[name] if need in left]]
            self.assertTrue(free, left)
            for name in free:
                del left[name]

    def test_imported_names_are_used(self):
        for path, tree in trees():
            names = {row.name for node in ast.walk(tree) if isinstance(node, ast.ImportFrom) for row in node.names}
            read = {node.id for node in ast.walk(tree) if isinstance(node, ast.Name)}
            self.assertEqual(names - read - {"annotations"}, set(), path)

    def test_module_level(self):
        for path, tree in trees():
            for node in tree.body:
                doc = isinstance(node, ast.Expr) and isinstance(node.value, ast.Constant)
                self.assertTrue(doc or isinstance(node, (ast.ImportFrom, ast.FunctionDef, ast.ClassDef, ast.Assign)), path)
                if isinstance(node, ast.Assign):
                    self.assertEqual(len(node.targets), 1)
                    self.assertIsInstance(node.targets[0], ast.Name)
                    for inner in ast.walk(node.value):
                        self.assertNotIsInstance(inner, (ast.Call, ast.Lambda, ast.ListComp, ast.Set), path)
                    for inner in ast.iter_child_nodes(node.value):
                        self.assertNotIsInstance(inner, (ast.List, ast.Dict), path)

    def test_statements_and_expressions(self):
        # A generator expression is not barred as such, but a list may always stand in its place.
        barred = (ast.GeneratorExp, ast.Await, ast.Global, ast.AsyncFunctionDef, ast.Div, ast.MatMult, ast.TryStar)
        for path, tree in trees():
            for node in ast.walk(tree):
                place = (path.name, getattr(node, "lineno", 0))
                self.assertNotIsInstance(node, barred, place)
                if isinstance(node, ast.stmt):
                    self.assertIsInstance(node, STATEMENTS, place)
                if isinstance(node, ast.Compare):
                    for sign, other in zip(node.ops, node.comparators):
                        if isinstance(sign, (ast.Is, ast.IsNot)):
                            self.assertIn(getattr(other, "value", 0), (None, True, False), place)
                if isinstance(node, ast.ExceptHandler):
                    self.assertIsNotNone(node.type, place)
                if isinstance(node, ast.Constant):
                    self.assertNotIsInstance(node.value, (float, complex), place)
                if isinstance(node, ast.FunctionDef):
                    self.assertIsNone(node.returns, place)
                    for one in arguments(node):
                        self.assertIsNone(one.annotation, place)

    def test_raises(self):
        for path, tree in trees():
            for node in ast.walk(tree):
                if isinstance(node, ast.Raise) and node.exc is not None:
                    self.assertIsInstance(node.exc, ast.Call, (path.name, node.lineno))
                    self.assertIsInstance(node.exc.func, ast.Name, (path.name, node.lineno))

    def test_names(self):
        for path, tree in trees():
            bound = {row.name for node in ast.walk(tree) if isinstance(node, ast.ImportFrom) for row in node.names}
            bound |= {node.name for node in ast.walk(tree) if isinstance(node, ast.ClassDef)}
            for node in ast.walk(tree):
                place = (path.name, getattr(node, "lineno", 0))
                names = []
                if isinstance(node, ast.Name) and isinstance(node.ctx, ast.Store):
                    names = [node.id]
                    self.assertNotIn(node.id, bound, place)
                elif isinstance(node, ast.arg):
                    names = [node.arg]
                    self.assertNotIn(node.arg, bound, place)
                elif isinstance(node, ast.FunctionDef):
                    names = [node.name]
                elif isinstance(node, ast.ClassDef):
                    names = [node.name]
                elif isinstance(node, ast.Name):
                    if hasattr(builtins, node.id):
                        self.assertIn(node.id, BUILTINS, place)
                    if node.id == "_":
                        self.fail(place)
                elif isinstance(node, ast.Attribute):
                    self.assertNotIn(node.attr, NOWHERE, place)
                for name in names:
                    self.assertNotIn(name, NOWHERE + NO_NAMES, place)
                    self.assertRegex(name, r"^(_|_?[A-Za-z][A-Za-z0-9_]*|__[a-z]+__)$", place)
                    if name.startswith("__"):
                        self.assertIn(name, ALLOWED_DUNDERS, place)

    def test_no_name_of_a_builtin(self):
        for path, tree in trees():
            methods = {one for node in ast.walk(tree) if isinstance(node, ast.ClassDef) for one in node.body}
            for node in ast.walk(tree):
                name = None
                if isinstance(node, ast.Name) and isinstance(node.ctx, ast.Store):
                    name = node.id
                elif isinstance(node, ast.arg):
                    name = node.arg
                elif isinstance(node, (ast.FunctionDef, ast.ClassDef)) and node not in methods:
                    name = node.name
                if name is not None and not name.startswith("__"):
                    self.assertFalse(hasattr(builtins, name), (path.name, name))

    def test_methods_that_are_called(self):
        own = set()
        for _, tree in trees():
            for node in ast.walk(tree):
                if isinstance(node, ast.ClassDef):
                    own |= {one.name for one in node.body if isinstance(one, ast.FunctionDef)}
        for path, tree in trees():
            for node in ast.walk(tree):
                if isinstance(node, ast.Call) and isinstance(node.func, ast.Attribute):
                    self.assertIn(node.func.attr, METHODS | own, (path.name, node.lineno))

    def test_strings(self):
        for path, tree in trees():
            spared = docstrings(tree)
            for node in ast.walk(tree):
                if isinstance(node, ast.Constant) and isinstance(node.value, str):
                    self.assertNotIn("%", node.value, (path.name, node.lineno))
                    if node not in spared:
                        self.assertFalse(set(re.findall(r"\w+", node.value)) & set(NO_WORDS), (path.name, node.lineno))
                        self.assertFalse(re.match(r"^__.*__$", node.value), (path.name, node.lineno))
                        self.assertFalse(node.value.endswith(("._", ".__")), (path.name, node.lineno))
                elif isinstance(node, (ast.Name, ast.Attribute, ast.arg)):
                    name = getattr(node, "id", getattr(node, "attr", getattr(node, "arg", "")))
                    self.assertNotIn(name, NO_WORDS, (path.name, node.lineno))

    def test_sets(self):
        """A set or a set's comprehension stands where its order can't be seen."""
        for path, tree in trees():
            above = {child: node for node in ast.walk(tree) for child in ast.iter_child_nodes(node)}
            for node in ast.walk(tree):
                made = isinstance(node, ast.Call) and getattr(node.func, "id", "") in ("set", "frozenset")
                if made or isinstance(node, (ast.Set, ast.SetComp)):
                    over = above[node]
                    called = isinstance(over, ast.Call) and getattr(over.func, "id", "") in ("sorted", "len")
                    good = called or isinstance(over, (ast.Compare, ast.BinOp, ast.Assign))
                    self.assertTrue(good, (path.name, node.lineno))

    def test_stars_in_calls(self):
        """Behind a star stand names, attributes off a name, literals alone."""
        for path, tree in trees():
            for node in ast.walk(tree):
                if isinstance(node, ast.Call):
                    for one in [arg.value for arg in node.args if isinstance(arg, ast.Starred)]:
                        inner = one.value if isinstance(one, ast.Attribute) else one
                        self.assertIsInstance(inner, (ast.Name, ast.Constant, ast.List, ast.Tuple), (path.name, node.lineno))

    def test_what_is_iterated_at_once(self):
        """What range, zip, items and their like tell is neither sliced nor compared nor measured."""
        barred = {"range", "zip", "enumerate", "reversed", "items", "keys", "values"}

        def tells(node):
            func = node.func if isinstance(node, ast.Call) else None
            return getattr(func, "id", getattr(func, "attr", None)) in barred
        for path, tree in trees():
            for node in ast.walk(tree):
                place = (path.name, getattr(node, "lineno", 0))
                if isinstance(node, (ast.Subscript, ast.Return, ast.Attribute)) and node.value is not None:
                    self.assertFalse(tells(node.value), place)
                if isinstance(node, ast.Compare):
                    self.assertFalse(any(tells(one) for one in [node.left] + node.comparators), place)
                if isinstance(node, ast.Call) and getattr(node.func, "id", "") == "set":
                    self.assertFalse(any(tells(one) for one in node.args), place)

    def test_lambdas(self):
        for path, tree in trees():
            lines = [node.lineno for node in ast.walk(tree) if isinstance(node, ast.Lambda)]
            self.assertEqual(len(lines), len(set(lines)), path)

    def test_attributes(self):
        """No name is a method and an attribute in one class; what is read is given somewhere."""
        given, methods = set(), set()
        for path, tree in trees():
            for made in [node for node in ast.walk(tree) if isinstance(node, ast.ClassDef)]:
                own = {one.name for one in made.body if isinstance(one, ast.FunctionDef)}
                stored = {node.attr for node in ast.walk(made) if isinstance(node, ast.Attribute) and isinstance(node.ctx, ast.Store)}
                self.assertEqual(own & stored, set(), (path.name, made.name))
                given |= stored
                methods |= own
        for path, tree in trees():
            for node in ast.walk(tree):
                if isinstance(node, ast.Attribute) and isinstance(node.ctx, ast.Load):
                    self.assertIn(node.attr, given | methods | METHODS, (path.name, node.lineno))

    def test_methods_with_names_of_builtin_ones(self):
        """They are called without keywords, as lists and texts have methods of these names."""
        for path, tree in trees():
            for node in ast.walk(tree):
                if isinstance(node, ast.Call) and isinstance(node.func, ast.Attribute) and node.func.attr in METHODS - {"__init__"}:
                    self.assertEqual(node.keywords, [], (path.name, node.lineno))

    def test_what_is_iterated_is_not_changed(self):
        changing = {"append", "pop", "clear", "extend", "insert", "remove", "reverse", "setdefault", "update", "sort"}
        for path, tree in trees():
            for loop in ast.walk(tree):
                if not isinstance(loop, ast.For):
                    continue
                over = ast.unparse(loop.iter)
                for node in ast.walk(loop):
                    if isinstance(node, ast.Call) and isinstance(node.func, ast.Attribute) and node.func.attr in changing:
                        self.assertNotEqual(ast.unparse(node.func.value), over, (path.name, node.lineno))


if __name__ == "__main__":
    unittest.main()
