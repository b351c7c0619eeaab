"""The files of the package keep to the rules of the language, as far as a plain test can see them."""

import ast
import builtins
import pathlib
import re
import unittest

PACKAGE = pathlib.Path(__file__).resolve().parent.parent / "leastshelf"
FILES = sorted(PACKAGE.glob("*.py"))

# the order in which the interface lists the modules, and the groups of point 0.3
GROUPS = (
    ("errors",),
    ("kinds", "effects", "steps", "swaps"),
    ("stretches", "fields", "overlays", "batches"),
    ("deeds", "leasts", "books", "futures"),
    ("menus", "tables", "rightness", "classes", "counts"),
    ("entries", "runs", "cuts", "rows", "leastruns", "noticed"),
    ("dropping", "ledgers", "cursors", "spares", "chains"),
    ("shelves", "orders", "pours", "partings", "toldlots"),
    ("logtexts", "devices", "windows", "syncs", "replays", "keepers"),
    ("plans", "prices", "spreads", "sizes"),
    ("desks", "scans", "trials", "listings"),
)
ORDER = [module for group in GROUPS for module in group]

LIBRARY = ("heapq", "math", "itertools", "collections")

BUILTINS = """len range enumerate zip min max sum abs sorted reversed int str bool list tuple dict set isinstance ord
repr any all divmod pow iter next map super property staticmethod classmethod getattr hasattr setattr object float bytes
Exception ValueError TypeError KeyError IndexError LookupError ZeroDivisionError ArithmeticError OverflowError
RuntimeError NotImplementedError AttributeError StopIteration NotImplemented""".split()

METHODS = """append clear copy count endswith extend find get index insert isalnum isalpha isdigit islower isspace
isupper items join keys ljust lower lstrip partition pop remove replace reverse rfind rjust rpartition rsplit rstrip
setdefault split splitlines startswith strip update upper values zfill bit_length title capitalize swapcase casefold
center expandtabs removeprefix removesuffix rindex isascii isdecimal isnumeric istitle isidentifier isprintable
translate maketrans encode decode add discard sort format from_iterable __init__ __class__ __name__""".split()

# what changes a list, a dict or a set
CHANGING = "append clear extend insert pop remove reverse setdefault update sort add discard".split()

BARRED_NAMES = """register mro elements open input law version_info with_traceback add_note attrgetter breakpoint
builtins compile copyright credits delattr dir eval exec exit gc getattr globals hasattr help id importlib license
locals methodcaller os quit setattr type vars sys""".split()

BARRED_WORDS = """typing typing_extensions enum Enum IntEnum StrEnum Flag IntFlag Generic Protocol ABC ABCMeta
namedtuple NamedTuple TypedDict TYPE_CHECKING abstractmethod _wall _WallAttr""".split()

STATEMENTS = (
    ast.Assign, ast.AnnAssign, ast.AugAssign, ast.If, ast.While, ast.For, ast.Return, ast.Break, ast.Continue, ast.Pass,
    ast.Raise, ast.Assert, ast.Delete, ast.Nonlocal, ast.Match, ast.With, ast.Try, ast.Expr, ast.FunctionDef, ast.ClassDef,
    ast.ImportFrom,
)


def parsed():
    """Returns a tuple of the name, the text and the tree of each file of the package."""
    texts = [(path.stem, path.read_text(encoding="utf-8")) for path in FILES]
    return [(name, text, ast.parse(text)) for name, text in texts if name != "__main__"]


def functions(tree):
    """Returns all functions and methods of a tree."""
    return [node for node in ast.walk(tree) if isinstance(node, ast.FunctionDef)]


def is_generator(function):
    """Returns True if a function yields."""
    return any(isinstance(node, (ast.Yield, ast.YieldFrom)) for node in ast.walk(function))


def arguments(function):
    """Returns the parameters of a function or a lambda."""
    args = function.args
    stars = [arg for arg in (args.vararg, args.kwarg) if arg is not None]
    return [*args.posonlyargs, *args.args, *args.kwonlyargs, *stars]


def local_names(function):
    """Returns the parameters and local variables of a function, its comprehensions and lambdas included."""
    names = [node.id for node in ast.walk(function) if isinstance(node, ast.Name) and isinstance(node.ctx, ast.Store)]
    for node in ast.walk(function):
        if isinstance(node, (ast.FunctionDef, ast.Lambda)):
            names.extend(arg.arg for arg in arguments(node))
    return names


def strings(tree):
    """Returns the strings of a tree."""
    return [node.value for node in ast.walk(tree) if isinstance(node, ast.Constant) and isinstance(node.value, str)]


def own_imports(tree):
    """Returns the imports of a tree from the package itself."""
    return [node for node in tree.body if isinstance(node, ast.ImportFrom) and node.module.startswith("leastshelf.")]


def imported(tree):
    """Returns the modules of the package from which a tree imports."""
    return [node.module.partition(".")[2] for node in own_imports(tree)]


def defined(tree):
    """Returns the names that a module defines itself."""
    names = [node.name for node in tree.body if isinstance(node, (ast.FunctionDef, ast.ClassDef))]
    names += [node.targets[0].id for node in tree.body if isinstance(node, ast.Assign)]
    return names + [node.target.id for node in tree.body if isinstance(node, ast.AnnAssign)]


def base_name(node):
    """Returns the name off which an attribute or an item is taken, None if it is taken off no name."""
    while isinstance(node, (ast.Attribute, ast.Subscript)):
        node = node.value
    return node.id if isinstance(node, ast.Name) else None


def walked_names(node):
    """Returns the names of what a loop over a value goes over; a copy has none."""
    if isinstance(node, ast.IfExp):
        return walked_names(node.body) | walked_names(node.orelse)
    if isinstance(node, ast.BoolOp):
        return set().union(*[walked_names(part) for part in node.values])
    if isinstance(node, ast.Call) and getattr(node.func, "id", "") in ("enumerate", "zip", "reversed"):
        return set().union(*[walked_names(part) for part in node.args])
    if isinstance(node, ast.Call) and getattr(node.func, "attr", "") in ("items", "keys", "values"):
        return walked_names(node.func.value)
    return {base_name(node)} - {None}


def changed_names(rows):
    """Returns the names off which the rows change something."""
    out = []
    for node in ast.walk(ast.Module(body=rows, type_ignores=[])):
        if isinstance(node, ast.Call) and isinstance(node.func, ast.Attribute) and node.func.attr in CHANGING:
            out.append(base_name(node.func.value))
        if isinstance(node, (ast.Assign, ast.AugAssign)):
            targets = node.targets if isinstance(node, ast.Assign) else [node.target]
            out.extend(base_name(target) for target in targets if not isinstance(target, ast.Name))
        if isinstance(node, ast.Delete):
            out.extend(base_name(target) for target in node.targets)
    return {name for name in out if name is not None}


def same_names(function):
    """Returns a dict from each name to the names that may mean the same thing somewhere in the function."""
    groups = {}
    for node in ast.walk(function):
        if isinstance(node, ast.Assign):
            names = walked_names(node.value) | {base_name(target) for target in node.targets} - {None}
            if walked_names(node.value):
                met = names.union(*[groups.get(name, {name}) for name in names])
                groups.update({name: met for name in met})
    return groups


class FilesTest(unittest.TestCase):
    def test_folder_holds_nothing_but_plain_files(self):
        names = [path.name for path in PACKAGE.iterdir() if path.name != "__pycache__"]
        self.assertIn("__init__.py", names)
        for name in names:
            self.assertRegex(name, r"^[a-z0-9_]+\.py$")

    def test_sizes_and_characters(self):
        for name, text, tree in parsed():
            lines = text.splitlines()
            self.assertLessEqual(len(lines), 399, name)
            self.assertTrue(set(text) <= set(map(chr, range(32, 127))) | {"\n"}, name)
            self.assertTrue(all(len(line) <= 120 for line in lines), name)
            for function in functions(tree):
                self.assertLessEqual(function.end_lineno - function.lineno + 1, 40, (name, function.name))

    def test_barred_words_stand_in_no_code(self):
        for name, text, tree in parsed():
            for node in ast.walk(tree):
                if isinstance(node, (ast.FunctionDef, ast.ClassDef, ast.Module)) and ast.get_docstring(node):
                    node.body[0].value.value = ""
            code = ast.unparse(tree)
            for word in BARRED_WORDS:
                self.assertIsNone(re.search(r"\b" + word + r"\b", code), (name, word))
            self.assertNotIn("%", "".join(strings(tree)), name)


class ImportsTest(unittest.TestCase):
    def test_imports_name_the_file_that_defines_the_name(self):
        trees = {name: tree for name, _, tree in parsed()}
        for name, tree in trees.items():
            for node in ast.walk(tree):
                self.assertNotIsInstance(node, ast.Import, name)
                if isinstance(node, ast.ImportFrom):
                    self.assertEqual(node.level, 0, name)
                    self.assertIn(node.module.partition(".")[0], ("leastshelf", "__future__", *LIBRARY), name)
            for node in own_imports(tree):
                for alias in node.names:
                    self.assertIn(alias.name, defined(trees[node.module.partition(".")[2]]), name)

    def test_groups_use_only_what_is_listed_before_them(self):
        for name, _, tree in parsed():
            if name in ORDER:
                group = [modules for modules in GROUPS if name in modules][0]
                for module in set(imported(tree)) & set(ORDER):
                    self.assertIn(module, [*ORDER[:ORDER.index(name)], *group], name)

    def test_no_ring_of_imports(self):
        uses = {name: imported(tree) for name, _, tree in parsed()}
        while uses:
            free = [name for name, modules in uses.items() if not set(modules) & set(uses)]
            self.assertTrue(free, uses)
            uses = {name: modules for name, modules in uses.items() if name not in free}


class NamesTest(unittest.TestCase):
    def test_module_level(self):
        for name, _, tree in parsed():
            names = [alias.name for node in tree.body if isinstance(node, ast.ImportFrom) for alias in node.names]
            names += defined(tree)
            self.assertEqual(len(names), len(set(names)), name)
            for node in tree.body:
                if isinstance(node, ast.Expr):
                    self.assertIsInstance(node.value, ast.Constant, name)
                else:
                    plain = (ast.ImportFrom, ast.Assign, ast.AnnAssign, ast.FunctionDef, ast.ClassDef)
                    self.assertIsInstance(node, plain, name)

    def test_local_names_shadow_nothing(self):
        for name, _, tree in parsed():
            taken = {alias.name for node in tree.body if isinstance(node, ast.ImportFrom) for alias in node.names}
            taken |= {node.name for node in tree.body if isinstance(node, ast.ClassDef)}
            taken |= set(dir(builtins)) | set(BARRED_NAMES)
            for function in functions(tree):
                self.assertEqual(set(local_names(function)) & taken, set(), (name, function.name))

    def test_builtins_and_methods_are_listed(self):
        trees = {name: tree for name, _, tree in parsed()}
        own = {node.name for tree in trees.values() for node in functions(tree)}
        own |= {node.attr for tree in trees.values() for node in ast.walk(tree)
                if isinstance(node, ast.Attribute) and isinstance(node.ctx, ast.Store)}
        own |= {part.targets[0].id for tree in trees.values() for node in tree.body if isinstance(node, ast.ClassDef)
                for part in node.body if isinstance(part, ast.Assign)}
        for name, tree in trees.items():
            for node in ast.walk(tree):
                if isinstance(node, ast.Name) and hasattr(builtins, node.id):
                    self.assertIn(node.id, BUILTINS, name)
                if isinstance(node, ast.Attribute):
                    self.assertIn(node.attr, METHODS + list(own), name)

    def test_own_methods_have_free_names(self):
        taken = {name for kind in (str, int, list, dict, set, bytes, tuple) for name in dir(kind)} - set(METHODS)
        for name, _, tree in parsed():
            for node in ast.walk(tree):
                if isinstance(node, ast.ClassDef):
                    for method in functions(node):
                        if not method.name.startswith("__"):
                            self.assertNotIn(method.name, taken, name)
                            self.assertRegex(method.name, r"^_?[a-z][a-z0-9_]*$")

    def test_generators(self):
        trees = {name: tree for name, _, tree in parsed()}
        everything = [node for tree in trees.values() for node in functions(tree)]
        names = [node.name for node in everything]
        makers = [node.name for node in everything if is_generator(node) and node.name != "__iter__"]
        for maker in makers:
            self.assertEqual(names.count(maker), 1, maker)
        for name, tree in trees.items():
            called = {id(node.func) for node in ast.walk(tree) if isinstance(node, ast.Call)}
            for node in ast.walk(tree):
                if isinstance(node, ast.Name) and node.id in makers:
                    self.assertIn(id(node), called, name)


class StatementsTest(unittest.TestCase):
    def test_statements_and_values(self):
        for name, _, tree in parsed():
            for node in ast.walk(tree):
                if isinstance(node, ast.stmt):
                    self.assertIsInstance(node, STATEMENTS, name)
                if isinstance(node, ast.Constant):
                    self.assertNotIsInstance(node.value, (float, complex), name)
                self.assertNotIsInstance(node, (ast.Div, ast.Await), name)

    def test_loops_do_not_change_what_they_walk(self):
        for name, _, tree in parsed():
            for function in functions(tree):
                groups = same_names(function)
                for node in ast.walk(function):
                    if isinstance(node, ast.For):
                        walked = walked_names(node.iter)
                        walked = walked.union(*[groups.get(one, {one}) for one in walked])
                        self.assertEqual(walked & changed_names(node.body), set(), (name, function.name, node.lineno))

    def test_errors_of_python_are_not_caught(self):
        for name, _, tree in parsed():
            for node in ast.walk(tree):
                if isinstance(node, ast.ExceptHandler):
                    self.assertIsNotNone(node.type, name)
                    for part in ast.walk(node.type):
                        self.assertNotIn(getattr(part, "id", ""), ("Exception", "TypeError", "AttributeError"), name)

    def test_ends_of_blocks_are_plain(self):
        for name, _, tree in parsed():
            for function in functions(tree):
                if function.name == "__exit__":
                    self.assertEqual([arg.arg for arg in arguments(function)], ["self", "kind", "value", "trace"], name)
                    for row in function.body:
                        self.assertIsInstance(row, ast.Assign, name)
                        self.assertIsInstance(row.value, ast.Attribute, name)
                    read = [node.id for node in ast.walk(function) if isinstance(node, ast.Name) and isinstance(node.ctx, ast.Load)]
                    self.assertEqual(set(read) & {"kind", "value", "trace"}, set(), name)

    def test_no_name_is_a_method_and_an_attribute(self):
        methods, attributes, properties = set(), set(), set()
        for _, _, tree in parsed():
            for node in ast.walk(tree):
                if isinstance(node, ast.ClassDef):
                    for method in functions(node):
                        (properties if method.decorator_list and getattr(method.decorator_list[0], "id", "") == "property"
                         else methods).add(method.name)
                if isinstance(node, ast.Attribute) and isinstance(node.ctx, ast.Store):
                    attributes.add(node.attr)
        self.assertEqual((methods & attributes, properties & attributes, methods & properties), (set(), set(), set()))

    def test_decorators(self):
        for name, _, tree in parsed():
            for node in ast.walk(tree):
                if isinstance(node, ast.FunctionDef):
                    for decorator in node.decorator_list:
                        word = decorator.attr if isinstance(decorator, ast.Attribute) else decorator.id
                        self.assertIn(word, ("property", "setter", "staticmethod", "classmethod"), name)
                if isinstance(node, ast.ClassDef):
                    self.assertEqual(node.decorator_list, [])


if __name__ == "__main__":
    unittest.main()
