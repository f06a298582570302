"""The rules of the language that can be seen in the text of the package's files."""

import ast
import builtins
import pathlib
import re
import unittest

FOLDER = pathlib.Path(__file__).resolve().parent.parent / "jointrees"
FILES = sorted(path for path in FOLDER.iterdir() if path.name != "__pycache__")

BUILTINS = set(
    "len range enumerate zip min max sum abs sorted reversed int str bool bytes list tuple dict set frozenset "
    "isinstance ord repr any all divmod Exception ValueError TypeError KeyError IndexError LookupError "
    "ZeroDivisionError ArithmeticError OverflowError RuntimeError NotImplementedError AttributeError "
    "StopIteration".split())
METHODS = set(
    "append clear copy count endswith extend find get index insert isalnum isalpha isdigit islower isspace isupper "
    "items join keys ljust lower lstrip partition pop remove replace reverse rfind rjust rpartition rsplit rstrip "
    "setdefault split splitlines startswith strip update upper values zfill bit_length sort add discard".split())
BARRED_NAMES = set(
    "register mro elements open input version_info with_traceback add_note attrgetter breakpoint builtins compile "
    "copyright credits delattr dir eval exec exit gc getattr globals hasattr help id importlib license locals "
    "methodcaller os quit setattr super type vars sys".split())
BARRED_WORDS = (
    "type typing typing_extensions enum Enum IntEnum StrEnum Flag IntFlag Generic Protocol ABC ABCMeta namedtuple "
    "NamedTuple TypedDict TYPE_CHECKING abstractmethod").split()
NODES = {
    ast.With, ast.AsyncWith, ast.Match, ast.Global, ast.Nonlocal, ast.Yield, ast.YieldFrom, ast.Await,
    ast.AsyncFunctionDef, ast.AsyncFor, ast.GeneratorExp, ast.NamedExpr, ast.Import, ast.Div, ast.MatMult,
}
ON_THE_SPOT = {"zip", "enumerate", "reversed", "range"}


BARRED_ATTRIBUTES = set(
    "items keys values pop update append clear extend insert remove reverse setdefault sort args encode decode hex "
    "fromhex format as_integer_ratio bit_count conjugate from_bytes is_integer to_bytes".split())


def own_methods():
    """The names of all methods of the package's classes."""
    trees = [ast.parse(path.read_text()) for path in FILES]
    classes = [node for tree in trees for node in ast.walk(tree) if isinstance(node, ast.ClassDef)]
    return {part.name for node in classes for part in node.body if isinstance(part, ast.FunctionDef)}


def own_attributes():
    """The names of all attributes that the package sets."""
    nodes = [node for path in FILES for node in ast.walk(ast.parse(path.read_text()))]
    return {node.attr for node in nodes if isinstance(node, ast.Attribute) and isinstance(node.ctx, ast.Store)}


OWN_METHODS = own_methods()
OWN_ATTRIBUTES = own_attributes()


def is_set(node):
    """Whether a part of the text makes a set."""
    called = isinstance(node, ast.Call) and isinstance(node.func, ast.Name) and node.func.id in ("set", "frozenset")
    return called or isinstance(node, (ast.Set, ast.SetComp))


def set_places(tree):
    """The parts of a tree at which a set may stand: looked in, sorted, counted, held against another one."""
    places = []
    for node in ast.walk(tree):
        if isinstance(node, ast.Compare) and isinstance(node.ops[0], (ast.In, ast.NotIn)):
            places.append(node.comparators[0])
        if isinstance(node, ast.Compare) and is_set(node.left) and is_set(node.comparators[0]):
            places += [node.left, node.comparators[0]]
        if isinstance(node, ast.Call) and isinstance(node.func, ast.Name) and node.func.id in ("sorted", "len"):
            places += node.args
    return places


def functions(tree):
    """All functions and methods of a file."""
    return [node for node in ast.walk(tree) if isinstance(node, ast.FunctionDef)]


def bound_in(function):
    """The names that a function binds, its parameters included."""
    names = [part.arg for part in ast.walk(function) if isinstance(part, ast.arg)]
    names += [part.id for part in ast.walk(function) if isinstance(part, ast.Name) and not isinstance(part.ctx, ast.Load)]
    return names


def each_file(test):
    """The test made one that goes through the files of the package."""
    def run(self):
        for path in FILES:
            text = path.read_text()
            with self.subTest(path.name):
                test(self, text, ast.parse(text))
    return run


class Language(unittest.TestCase):
    def test_files(self):
        for path in FILES:
            self.assertRegex(path.name, r"^(__init__|[a-z][a-z0-9_]*)\.py$")

    @each_file
    def test_characters_and_sizes(self, text, tree):
        self.assertRegex(text, r"\A[ -~\n]*\Z")
        lines = text.split("\n")
        self.assertLessEqual(len(lines), 401)
        self.assertLessEqual(max(len(line) for line in lines), 120)
        for node in functions(tree):
            self.assertLessEqual(node.end_lineno - node.lineno + 1, 40)

    @each_file
    def test_words_that_do_not_occur(self, text, tree):
        for word in BARRED_WORDS:
            self.assertIsNone(re.search(rf"\b{word}\b", text), word)
        self.assertIsNone(re.search("dataclass|overload|contextmanager", text))

    @each_file
    def test_imports(self, text, tree):
        for node in ast.walk(tree):
            if isinstance(node, ast.ImportFrom):
                self.assertIn(node, tree.body)
                self.assertEqual(node.level, 0)
                self.assertRegex(node.module, r"^jointrees\.[a-z]+$")
                home = ast.parse((FOLDER / (node.module.split(".")[1] + ".py")).read_text())
                defined = {part.name for part in home.body if isinstance(part, (ast.FunctionDef, ast.ClassDef))}
                defined |= {part.targets[0].id for part in home.body if isinstance(part, ast.Assign)}
                self.assertEqual([part.name for part in node.names if part.name not in defined], [])

    @each_file
    def test_module_level(self, text, tree):
        for node in tree.body[1:]:
            self.assertIsInstance(node, (ast.ImportFrom, ast.FunctionDef, ast.ClassDef, ast.Assign))
        self.assertIsInstance(tree.body[0].value, ast.Constant)

    @each_file
    def test_nodes_that_are_not_allowed(self, text, tree):
        for node in ast.walk(tree):
            self.assertNotIn(type(node), NODES)
            self.assertFalse(isinstance(node, (ast.For, ast.While)) and node.orelse, "else after a loop")
            self.assertFalse(isinstance(node, (ast.FunctionDef, ast.ClassDef)) and node.decorator_list)
            if isinstance(node, ast.Constant):
                self.assertNotIsInstance(node.value, (float, complex))
                self.assertNotIn("%", node.value if isinstance(node.value, str) else "")
            if isinstance(node, ast.arguments):
                self.assertFalse(node.vararg or node.kwarg or node.posonlyargs)
            if isinstance(node, ast.Compare):
                for sign, part in zip(node.ops, node.comparators):
                    if isinstance(sign, (ast.Is, ast.IsNot)):
                        self.assertIn(part.value, (None, True, False))

    @each_file
    def test_names(self, text, tree):
        taken = set(dir(builtins)) | {part.name for part in ast.walk(tree) if isinstance(part, (ast.ClassDef,))}
        taken |= {part.name for node in tree.body if isinstance(node, ast.ImportFrom) for part in node.names}
        for function in functions(tree):
            names = bound_in(function)
            self.assertEqual([name for name in names if name in taken | BARRED_NAMES or name[0] == "_"], [])
        for node in ast.walk(tree):
            if isinstance(node, ast.Name) and node.id in dir(builtins):
                self.assertIn(node.id, BUILTINS)
            if isinstance(node, ast.Attribute):
                self.assertIn(node.attr, METHODS | OWN_METHODS | OWN_ATTRIBUTES)
        names = [part.name for part in tree.body if isinstance(part, (ast.FunctionDef, ast.ClassDef))]
        self.assertEqual(len(names), len(set(names)))

    def test_methods_and_attributes(self):
        self.assertEqual(OWN_METHODS & OWN_ATTRIBUTES, set())
        self.assertEqual(OWN_ATTRIBUTES & BARRED_ATTRIBUTES, set())
        self.assertEqual([name for name in OWN_METHODS if name.startswith("__")], ["__init__"])

    @each_file
    def test_sets(self, text, tree):
        for function in functions(tree):
            places = set_places(function)
            stored = [node for node in ast.walk(function) if isinstance(node, ast.Assign) and is_set(node.value)]
            names = [node.targets[0].id for node in stored]
            self.assertEqual(len(names), len(set(names)))
            for node in ast.walk(function):
                if is_set(node):
                    self.assertTrue(node in places or node in [one.value for one in stored], ast.dump(node))
                if isinstance(node, ast.Name) and node.id in names and isinstance(node.ctx, ast.Load):
                    self.assertIn(node, places)

    @each_file
    def test_powers(self, text, tree):
        for node in ast.walk(tree):
            if isinstance(node, ast.BinOp) and isinstance(node.op, ast.Pow):
                self.assertIsInstance(node.right, ast.Constant)
                self.assertLessEqual(node.right.value, 64)

    @each_file
    def test_iterated_on_the_spot(self, text, tree):
        spots = []
        for node in ast.walk(tree):
            if isinstance(node, (ast.For, ast.comprehension)):
                spots.append(node.iter)
            if isinstance(node, ast.Call) and isinstance(node.func, ast.Name):
                if node.func.id in ("list", "tuple", "dict", "sorted", "sum", "any", "all", "enumerate", "zip"):
                    spots.extend(node.args[:1])
        for node in ast.walk(tree):
            if isinstance(node, ast.Call) and isinstance(node.func, ast.Name) and node.func.id in ON_THE_SPOT:
                self.assertIn(node, spots)
