"""The files of the package keep to the rules of the language, as far as a test can see them."""

import ast
import builtins
import pathlib
import re
import unittest

PACKAGE = pathlib.Path(__file__).resolve().parent.parent / "leastshelf"
FILES = sorted(PACKAGE.glob("*.py"))

# the order in which the interface lists the modules, and the groups of point 0.3
GROUPS = (
    ("errors",),
    ("kinds", "effects", "steps", "swaps"),
    ("stretches", "fields", "overlays", "batches"),
    ("deeds", "leasts", "books", "futures"),
    ("menus", "tables", "rightness", "classes", "counts"),
    ("entries", "runs", "cuts", "rows", "leastruns", "noticed"),
    ("dropping", "ledgers", "cursors", "spares", "chains"),
    ("shelves", "orders", "pours", "partings", "toldlots"),
    ("logtexts", "devices", "windows", "syncs", "replays", "keepers"),
    ("plans", "prices", "spreads", "sizes"),
    ("desks", "scans", "trials", "listings"),
)

BUILTINS = """len range enumerate zip min max sum abs sorted reversed int str bool list tuple dict set isinstance ord
repr any all divmod iter next super property staticmethod classmethod ValueError TypeError KeyError""".split()

METHODS = """append clear copy count endswith extend find get index insert isalnum isalpha isdigit islower isspace
isupper items join keys ljust lower lstrip partition pop remove replace reverse rfind rjust rpartition rsplit rstrip
setdefault split splitlines startswith strip update upper values zfill bit_length add discard __init__""".split()

BARRED_NAMES = """register mro elements open input law version_info with_traceback add_note attrgetter breakpoint
builtins compile copyright credits delattr dir eval exec exit gc getattr globals hasattr help id importlib license
locals methodcaller os quit setattr type vars sys""".split()

BARRED_WORDS = """typing typing_extensions enum Enum IntEnum StrEnum Flag IntFlag Generic Protocol ABC ABCMeta
namedtuple NamedTuple TypedDict TYPE_CHECKING abstractmethod _wall _WallAttr""".split()

SPECIAL = ("__init__", "__eq__", "__len__", "__iter__", "__contains__")

STATEMENTS = (
    ast.Assign, ast.AugAssign, ast.If, ast.While, ast.For, ast.Return, ast.Break, ast.Continue, ast.Pass, ast.Raise,
    ast.Delete, ast.Expr, ast.FunctionDef, ast.ClassDef, ast.ImportFrom, ast.Try,
)


def parsed():
    """Yields the name, the text and the tree of each file of the package."""
    for path in FILES:
        text = path.read_text(encoding="utf-8")
        yield path.stem, text, ast.parse(text)


def functions(tree):
    """Returns all functions and methods of a tree."""
    return [node for node in ast.walk(tree) if isinstance(node, ast.FunctionDef)]


def is_generator(function):
    """Returns True if a function yields."""
    return any(isinstance(node, (ast.Yield, ast.YieldFrom)) for node in ast.walk(function))


def arguments(function):
    """Returns the parameters of a function or a lambda."""
    args = function.args
    stars = [arg for arg in (args.vararg, args.kwarg) if arg is not None]
    return [*args.posonlyargs, *args.args, *args.kwonlyargs, *stars]


def local_names(function):
    """Returns the parameters and local variables of a function, its comprehensions and lambdas included."""
    names = [node.id for node in ast.walk(function) if isinstance(node, ast.Name) and isinstance(node.ctx, ast.Store)]
    for node in ast.walk(function):
        if isinstance(node, (ast.FunctionDef, ast.Lambda)):
            names.extend(arg.arg for arg in arguments(node))
    return names


class FilesTest(unittest.TestCase):
    def test_folder_holds_nothing_but_plain_files(self):
        names = [path.name for path in PACKAGE.iterdir() if path.name != "__pycache__"]
        self.assertIn("__init__.py", names)
        for name in names:
            self.assertRegex(name, r"^[a-z0-9_]+\.py$")

    def test_sizes_and_characters(self):
        for name, text, tree in parsed():
            lines = text.splitlines()
            self.assertLessEqual(len(lines), 399, name)
            self.assertTrue(set(text) <= set(map(chr, range(32, 127))) | {"\n"}, name)
            self.assertTrue(all(len(line) <= 120 for line in lines), name)
            for function in functions(tree):
                self.assertLessEqual(function.end_lineno - function.lineno + 1, 40, (name, function.name))

    def test_barred_words_stand_in_no_code(self):
        for name, text, tree in parsed():
            for node in ast.walk(tree):
                if isinstance(node, (ast.FunctionDef, ast.ClassDef, ast.Module)) and ast.get_docstring(node):
                    node.body[0].value.value = ""
            code = ast.unparse(tree)
            for word in BARRED_WORDS:
                self.assertIsNone(re.search(r"\b" + word + r"\b", code), (name, word))
            self.assertNotIn("%", "".join(strings(tree)), name)

    def test_errors_of_python_are_not_caught(self):
        for name, _, tree in parsed():
            for node in ast.walk(tree):
                if isinstance(node, ast.ExceptHandler):
                    self.assertIsInstance(node.type, ast.Name, name)
                    self.assertFalse(hasattr(builtins, node.type.id) and node.type.id != "KeyError", name)


def strings(tree):
    """Returns the strings of a tree."""
    return [node.value for node in ast.walk(tree) if isinstance(node, ast.Constant) and isinstance(node.value, str)]


class ImportsTest(unittest.TestCase):
    def test_imports_name_the_file_that_defines_the_name(self):
        trees = {name: tree for name, _, tree in parsed()}
        for name, tree in trees.items():
            for node in ast.walk(tree):
                self.assertNotIsInstance(node, ast.Import, name)
                if isinstance(node, ast.ImportFrom):
                    package, _, module = node.module.partition(".")
                    self.assertEqual((package, node.level), ("leastshelf", 0), name)
                    for alias in node.names:
                        self.assertIsNone(alias.asname)
                        self.assertIn(alias.name, defined(trees[module]), (name, module))

    def test_groups_use_only_what_is_listed_before_them(self):
        order = [module for group in GROUPS for module in group]
        for name, _, tree in parsed():
            if name == "__init__":
                continue
            group = [number for number, modules in enumerate(GROUPS) if name in modules][0]
            for module in imported(tree):
                self.assertIn(module, order[:order.index(name)] + list(GROUPS[group]), name)

    def test_no_ring_of_imports(self):
        uses = {name: imported(tree) for name, _, tree in parsed()}
        while uses:
            free = [name for name, modules in uses.items() if not set(modules) & set(uses)]
            self.assertTrue(free, uses)
            uses = {name: modules for name, modules in uses.items() if name not in free}

    def test_every_import_is_used(self):
        for name, _, tree in parsed():
            used = {node.id for node in ast.walk(tree) if isinstance(node, ast.Name)}
            for node in tree.body:
                if isinstance(node, ast.ImportFrom):
                    for alias in node.names:
                        self.assertIn(alias.name, used, name)


def imported(tree):
    """Returns the modules from which a tree imports."""
    return [node.module.partition(".")[2] for node in tree.body if isinstance(node, ast.ImportFrom)]


def defined(tree):
    """Returns the names that a module defines itself."""
    names = [node.name for node in tree.body if isinstance(node, (ast.FunctionDef, ast.ClassDef))]
    return names + [node.targets[0].id for node in tree.body if isinstance(node, ast.Assign)]


class NamesTest(unittest.TestCase):
    def test_module_level(self):
        for name, _, tree in parsed():
            names = []
            for node in tree.body:
                if isinstance(node, ast.Expr):
                    self.assertIsInstance(node.value, ast.Constant, name)
                elif isinstance(node, ast.ImportFrom):
                    names.extend(alias.name for alias in node.names)
                elif isinstance(node, ast.Assign):
                    self.assertEqual(len(node.targets), 1)
                    ast.literal_eval(node.value)
                    names.append(node.targets[0].id)
                else:
                    self.assertIsInstance(node, (ast.FunctionDef, ast.ClassDef), name)
                    names.append(node.name)
            self.assertEqual(len(names), len(set(names)), name)

    def test_local_names_shadow_nothing(self):
        for name, _, tree in parsed():
            taken = {alias.name for node in tree.body if isinstance(node, ast.ImportFrom) for alias in node.names}
            taken |= set(defined(tree)) | set(dir(builtins)) | set(BARRED_NAMES)
            for function in functions(tree):
                self.assertEqual(set(local_names(function)) & taken, set(), (name, function.name))

    def test_builtins_and_methods_are_listed(self):
        trees = {name: tree for name, _, tree in parsed()}
        own = {node.name for tree in trees.values() for node in functions(tree)}
        own |= {node.attr for tree in trees.values() for node in ast.walk(tree)
                if isinstance(node, ast.Attribute) and isinstance(node.ctx, ast.Store)}
        for name, tree in trees.items():
            for node in ast.walk(tree):
                if isinstance(node, ast.Name) and hasattr(builtins, node.id):
                    self.assertIn(node.id, BUILTINS, name)
                if isinstance(node, ast.Attribute):
                    self.assertIn(node.attr, METHODS + list(own), name)

    def test_own_methods_have_free_names(self):
        builtin = {name for kind in (str, int, list, dict, set, bytes, tuple) for name in dir(kind)}
        for name, _, tree in parsed():
            for node in ast.walk(tree):
                if isinstance(node, ast.ClassDef):
                    for method in functions(node):
                        self.assertTrue(method.name in SPECIAL or method.name not in builtin, (name, method.name))
                        self.assertRegex(method.name, r"^(__[a-z]+__|_?[a-z][a-z0-9_]*)$")
                    self.assertEqual(len(functions(node)), len({method.name for method in functions(node)}))

    def test_generators(self):
        trees = {name: tree for name, _, tree in parsed()}
        everything = [node for tree in trees.values() for node in functions(tree)]
        names = [node.name for node in everything]
        makers = [node.name for node in everything if is_generator(node)]
        for maker in makers:
            self.assertEqual(names.count(maker), 1, maker)
        for name, tree in trees.items():
            called = {id(node.func) for node in ast.walk(tree) if isinstance(node, ast.Call)}
            for node in ast.walk(tree):
                if isinstance(node, ast.Name) and node.id in makers:
                    self.assertIn(id(node), called, name)


class StatementsTest(unittest.TestCase):
    def test_statements_and_values(self):
        for name, _, tree in parsed():
            for node in ast.walk(tree):
                if isinstance(node, ast.stmt):
                    self.assertIsInstance(node, STATEMENTS, name)
                if isinstance(node, ast.Constant):
                    self.assertNotIsInstance(node.value, (float, complex, bytes), name)
                self.assertNotIsInstance(node, (ast.Div, ast.NamedExpr, ast.Await, ast.GeneratorExp), name)

    def test_is_stands_beside_none_true_and_false_alone(self):
        for name, _, tree in parsed():
            for node in ast.walk(tree):
                if isinstance(node, ast.Compare) and isinstance(node.ops[0], (ast.Is, ast.IsNot)):
                    self.assertIsInstance(node.comparators[0], ast.Constant, name)

    def test_decorators(self):
        for name, _, tree in parsed():
            for node in ast.walk(tree):
                if isinstance(node, ast.FunctionDef):
                    for decorator in node.decorator_list:
                        self.assertIn(decorator.id, ("property", "staticmethod", "classmethod"), name)
                if isinstance(node, ast.ClassDef):
                    self.assertEqual(node.decorator_list, [])

    def test_one_lambda_on_a_line(self):
        for name, _, tree in parsed():
            lines = [node.lineno for node in ast.walk(tree) if isinstance(node, ast.Lambda)]
            self.assertEqual(len(lines), len(set(lines)), name)

    def test_sets_are_made_where_they_may_stand(self):
        for name, _, tree in parsed():
            for function in functions(tree):
                made = [node for node in ast.walk(function) if is_set_made(node)]
                allowed = set()
                for node in ast.walk(function):
                    if isinstance(node, ast.Call) and isinstance(node.func, ast.Name) and node.func.id in ("sorted", "len"):
                        allowed |= {id(part) for part in ast.walk(node.args[0])}
                    if isinstance(node, ast.Assign):
                        allowed.add(id(node.value))
                self.assertTrue(all(id(node) in allowed for node in made), (name, function.name))


def is_set_made(node):
    """Returns True if a node makes a set."""
    if isinstance(node, (ast.Set, ast.SetComp)):
        return True
    return isinstance(node, ast.Call) and isinstance(node.func, ast.Name) and node.func.id == "set"


if __name__ == "__main__":
    unittest.main()
