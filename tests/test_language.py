"""The rules of the language that a reading of the code can see."""

import ast
import builtins
import os
import re
import tokenize
from unittest import TestCase

import threefeet

FOLDER = os.path.dirname(os.path.abspath(threefeet.__file__))
BUILTINS = set("""len range enumerate zip min max sum abs sorted reversed int str bool bytes list tuple dict set frozenset
isinstance ord repr any all divmod iter next Exception ValueError TypeError KeyError IndexError LookupError
ZeroDivisionError ArithmeticError OverflowError RuntimeError NotImplementedError AttributeError StopIteration map""".split())
METHODS = set("""append clear copy count endswith extend find get index insert isalnum isalpha isdigit islower isspace
isupper items join keys ljust lower lstrip partition pop remove replace reverse rfind rjust rpartition rsplit rstrip
setdefault split splitlines startswith strip update upper values zfill bit_length add discard""".split())
LIBRARY = {"itertools": {"product", "combinations", "permutations", "chain", "accumulate", "pairwise", "islice",
                         "zip_longest"},
           "heapq": {"heappush", "heappop", "heapify", "heapreplace", "heappushpop"},
           "math": {"gcd", "lcm", "isqrt", "comb", "perm", "factorial"}, "collections": {"defaultdict", "deque"}}
BARRED_WORDS = set("""type typing enum Enum IntEnum StrEnum Flag IntFlag Generic Protocol ABC ABCMeta namedtuple NamedTuple
TypedDict TYPE_CHECKING abstractmethod typing_extensions dataclass overload contextmanager""".split())
BARRED_NAMES = set("""mro elements open input law version_info with_traceback add_note register attrgetter breakpoint
builtins compile delattr dir eval exec exit gc getattr globals hasattr help id importlib locals methodcaller os setattr
super vars sys _cold _tuplegetter _outside _record _written_out _member_names""".split())
BARRED_STARTS = ("__", "_wall", "_pe_", "_dcw_", "_enum_", "_cm_", "_twin_re_", "_lay_", "_law_", "_stub_", "_sre")
STATEMENTS = (ast.AsyncFunctionDef, ast.Global, ast.AsyncFor, ast.AsyncWith, ast.Await, ast.TryStar)


def files():
    for name in sorted(os.listdir(FOLDER)):
        if name != "__pycache__":
            yield name


def parsed():
    for name in files():
        with open(os.path.join(FOLDER, name)) as held:
            text = held.read()
        yield name, text, ast.parse(text)


def bound(node):
    """The names that this function or module binds: parameters, targets, loops, comprehensions."""
    names = set()
    for own in ast.walk(node):
        if isinstance(own, ast.arg):
            names.add(own.arg)
        if isinstance(own, ast.Name) and isinstance(own.ctx, ast.Store):
            names.add(own.id)
    return names


def functions(tree):
    return [node for node in ast.walk(tree) if isinstance(node, ast.FunctionDef)]


def classes():
    """The classes of the package by their names."""
    return {node.name: node for _, _, tree in parsed() for node in tree.body if isinstance(node, ast.ClassDef)}


def own_methods():
    return {own.name for node in classes().values() for own in node.body if isinstance(own, ast.FunctionDef)}


class Files(TestCase):

    def test_names_and_sizes(self):
        self.assertLessEqual(len(list(files())), 100)
        for name, text, tree in parsed():
            self.assertTrue(re.fullmatch(r"[a-z_][a-z0-9_]*\.py", name), name)
            lines = text.split("\n")
            self.assertLessEqual(len(lines) - 1, 399, name)
            self.assertLessEqual(max(map(len, lines)), 120, name)
            self.assertTrue(all(sign == "\n" or " " <= sign <= "~" for sign in text), name)
            for own in functions(tree):
                self.assertLessEqual(own.end_lineno - own.lineno + 1, 40, (name, own.name))

    def test_words(self):
        for name, _, _ in parsed():
            with open(os.path.join(FOLDER, name), "rb") as held:
                for token in tokenize.tokenize(held.readline):
                    if token.type == tokenize.NAME:
                        self.assertNotIn(token.string, BARRED_WORDS, (name, token.start))
                        self.assertNotIn(token.string, BARRED_NAMES, (name, token.start))
                    if token.type == tokenize.NUMBER:
                        self.assertTrue(token.string.isdigit(), (name, token.start))
                    if token.type == tokenize.OP:
                        self.assertNotIn(token.string, ("/", "/=", "@"), (name, token.start))
                    if token.type == tokenize.STRING and not token.string.startswith('"""'):
                        self.assertNotIn("%", token.string, (name, token.start))


class Code(TestCase):

    def test_module_level(self):
        for name, _, tree in parsed():
            allowed = (ast.Expr, ast.ImportFrom, ast.FunctionDef, ast.ClassDef, ast.Assign)
            for node in tree.body:
                self.assertIsInstance(node, allowed, name)
                if isinstance(node, ast.Expr):
                    self.assertIsInstance(node.value.value, str)
            once = [node.name for node in tree.body if isinstance(node, (ast.FunctionDef, ast.ClassDef))]
            once += [own.name for node in tree.body if isinstance(node, ast.ImportFrom) for own in node.names]
            self.assertEqual(len(once), len(set(once)), name)

    def test_imports(self):
        for name, _, tree in parsed():
            used = {node.id for node in ast.walk(tree) if isinstance(node, ast.Name)}
            imports = [node for node in ast.walk(tree) if isinstance(node, (ast.Import, ast.ImportFrom))]
            for node in imports:
                self.assertIsInstance(node, ast.ImportFrom)
                self.assertIn(node, tree.body)
                for own in node.names:
                    self.assertIsNone(own.asname)
                    self.assertIn(own.name, used, (name, own.name))
                    if node.module in LIBRARY:
                        self.assertIn(own.name, LIBRARY[node.module])
                    else:
                        self.assertTrue(node.module.startswith("threefeet."), name)

    def test_names(self):
        for name, _, tree in parsed():
            imported = {own.name for node in tree.body if isinstance(node, ast.ImportFrom) for own in node.names}
            classes = {node.name for node in tree.body if isinstance(node, ast.ClassDef)}
            for own in functions(tree):
                local = bound(own)
                self.assertFalse(local & (imported | classes), (name, own.name))
                self.assertFalse((local | {own.name}) & set(dir(builtins)) - {"__init__"}, (name, own.name))
                self.assertFalse([word for word in local if word.startswith(BARRED_STARTS)], (name, own.name))

    def test_statements_and_values(self):
        for name, _, tree in parsed():
            for node in ast.walk(tree):
                self.assertNotIsInstance(node, STATEMENTS, name)
                self.assertFalse(getattr(node, "decorator_list", None), name)
                if isinstance(node, ast.Constant):
                    self.assertIn(type(node.value), (int, str, bool, type(None)), name)
                if isinstance(node, ast.Compare) and isinstance(node.ops[0], (ast.Is, ast.IsNot)):
                    self.assertIsInstance(node.comparators[0], ast.Constant)
                if isinstance(node, ast.Raise):
                    self.assertIsInstance(node.exc, ast.Call)

    def test_builtins_and_methods(self):
        methods = METHODS | own_methods()
        for name, _, tree in parsed():
            told = {node.name for node in ast.walk(tree) if isinstance(node, (ast.FunctionDef, ast.ClassDef))}
            told |= {own.name for node in tree.body if isinstance(node, ast.ImportFrom) for own in node.names}
            for node in ast.walk(tree):
                if isinstance(node, ast.Call) and isinstance(node.func, ast.Name):
                    self.assertTrue(node.func.id in told or node.func.id in BUILTINS, (name, node.func.id))
                if isinstance(node, ast.Call) and isinstance(node.func, ast.Attribute):
                    self.assertIn(node.func.attr, methods, (name, node.lineno))

    def test_classes(self):
        """Errors and the Yard: no name is a method and an attribute, and none that of a builtin value's method."""
        errors = {name for name, node in classes().items() if name != "Yard"}
        for name, node in classes().items():
            methods = {own.name for own in node.body if isinstance(own, ast.FunctionDef)}
            held = {own.attr for own in ast.walk(node) if isinstance(own, ast.Attribute) and isinstance(own.ctx, ast.Store)}
            self.assertFalse(methods & held, name)
            self.assertFalse((methods | held) & METHODS, name)
            self.assertFalse([own for own in held if own.startswith("__")], name)
            for own in node.body:
                self.assertIsInstance(own, (ast.FunctionDef, ast.Expr), name)
        for name, _, tree in parsed():
            for node in ast.walk(tree):
                if isinstance(node, ast.ExceptHandler):
                    kinds = node.type.elts if isinstance(node.type, ast.Tuple) else [node.type]
                    self.assertLessEqual({own.id for own in kinds}, errors, (name, node.lineno))
                if isinstance(node, ast.Try):
                    self.assertFalse(node.finalbody)

    def test_calls_with_stars(self):
        """Behind a star stands a name, and then names; there are no keywords."""
        for name, _, tree in parsed():
            for node in ast.walk(tree):
                if isinstance(node, ast.Call) and any(isinstance(own, ast.Starred) for own in node.args):
                    self.assertFalse(node.keywords, (name, node.lineno))
                    for own in node.args:
                        own = own.value if isinstance(own, ast.Starred) else own
                        self.assertIsInstance(own, ast.Name, (name, node.lineno))

    def test_sets_stand_where_they_may(self):
        """A set is measured, sorted or compared where it is written; none is kept in the package so far."""
        for name, _, tree in parsed():
            fit = set()
            for node in ast.walk(tree):
                if isinstance(node, ast.Call) and isinstance(node.func, ast.Name) and node.func.id in ("len", "sorted"):
                    fit.update(id(own) for own in node.args)
                if isinstance(node, ast.Compare):
                    fit.update(id(own) for own in node.comparators)
            for node in ast.walk(tree):
                is_call = isinstance(node, ast.Call) and isinstance(node.func, ast.Name) and node.func.id == "set"
                if is_call or isinstance(node, (ast.Set, ast.SetComp)):
                    self.assertIn(id(node), fit, (name, node.lineno))

    def test_what_is_gone_over_is_not_kept(self):
        """zip, enumerate and reversed stand in a loop's head or in a call."""
        for name, _, tree in parsed():
            fit = set()
            for node in ast.walk(tree):
                if isinstance(node, (ast.For, ast.comprehension)):
                    fit.add(id(node.iter))
                if isinstance(node, ast.Call) and isinstance(node.func, ast.Name):
                    fit.update(id(own) for own in node.args)
            for node in ast.walk(tree):
                if isinstance(node, ast.Call) and isinstance(node.func, ast.Name):
                    if node.func.id in ("zip", "enumerate", "reversed", "combinations", "product", "permutations"):
                        self.assertIn(id(node), fit, (name, node.lineno))
