"""The package's files keep to the subset of the language, as far as a test can plainly see it."""

import ast
import builtins
import os
import re
import unittest

PACKAGE = os.path.join(os.path.dirname(os.path.dirname(os.path.abspath(__file__))), "handlepairs")

BUILTINS = set(
    "len range enumerate zip min max sum abs sorted reversed int str bool list tuple dict set isinstance ord repr any all "
    "divmod pow Exception ValueError TypeError KeyError IndexError LookupError ZeroDivisionError StopIteration "
    "NotImplemented NotImplementedError iter next map".split()
)
METHODS = set(
    "append clear copy count endswith extend find get index insert isalnum isalpha isdigit islower isspace isupper items "
    "join keys ljust lower lstrip partition pop remove replace reverse rfind rjust rpartition rsplit rstrip setdefault "
    "split splitlines startswith strip update upper values zfill bit_length add discard sort".split()
)
LIBRARY = {
    "heapq": {"heappush", "heappop", "heapify"},
    "math": {"gcd", "lcm", "isqrt", "comb", "perm", "factorial"},
    "itertools": {"product", "combinations", "permutations"},
}
BARRED_WORDS = re.compile(
    r"\b(type|typing|typing_extensions|enum|Enum|IntEnum|StrEnum|Flag|IntFlag|Generic|Protocol|ABC|ABCMeta|namedtuple|"
    r"NamedTuple|TypedDict|TYPE_CHECKING|abstractmethod)\b|dataclass|overload|contextmanager|_wall|_WallAttr"
)
BARRED_NAMES = set(
    "register mro elements open input law version_info with_traceback add_note attrgetter breakpoint builtins compile "
    "copyright credits delattr dir eval exec exit gc getattr globals hasattr help id importlib license locals "
    "methodcaller os quit setattr super type vars sys".split()
)
BARRED_NODES = (
    ast.Global, ast.AsyncFunctionDef, ast.Await, ast.GeneratorExp, ast.Div, ast.Import, ast.MatMult, ast.TryStar,
    ast.AnnAssign,
)
MODULE_LEVEL = (ast.FunctionDef, ast.ClassDef, ast.ImportFrom, ast.Assign, ast.Expr)


def files():
    for folder, folders, names in os.walk(PACKAGE):
        folders[:] = [name for name in folders if name != "__pycache__"]
        for name in sorted(names):
            yield os.path.join(folder, name)


def read(path):
    with open(path, encoding="utf-8", newline="") as file:
        return file.read()


def trees():
    for path in files():
        yield os.path.relpath(path, PACKAGE), ast.parse(read(path))


def bound_names(tree):
    """Names of functions, classes, parameters and variables."""
    for node in ast.walk(tree):
        if isinstance(node, (ast.FunctionDef, ast.ClassDef)):
            yield node.name
        elif isinstance(node, ast.arg):
            yield node.arg
        elif isinstance(node, ast.Name) and not isinstance(node.ctx, ast.Load):
            yield node.id


def top_names(tree):
    """Names bound at module level by imports, functions, classes and assignments."""
    for node in tree.body:
        if isinstance(node, ast.ImportFrom):
            yield from (own.asname or own.name for own in node.names)
        elif isinstance(node, (ast.FunctionDef, ast.ClassDef)):
            yield node.name
        elif isinstance(node, ast.Assign):
            yield from (own.id for own in node.targets)


def makes_set(node):
    """Whether this is a set literal, a set comprehension or set(..)."""
    return isinstance(node, (ast.Set, ast.SetComp)) or (
        isinstance(node, ast.Call) and getattr(node.func, "id", "") == "set"
    )


def joined_parts(node):
    """What is joined by the signs -, &, | and ^; the node itself, if it is no such sum."""
    if isinstance(node, ast.BinOp) and isinstance(node.op, (ast.Sub, ast.BitAnd, ast.BitOr, ast.BitXor)):
        return joined_parts(node.left) + joined_parts(node.right)
    return [node]


def docstrings(tree):
    return {
        id(node.body[0].value) for node in ast.walk(tree)
        if isinstance(node, (ast.Module, ast.ClassDef, ast.FunctionDef)) and ast.get_docstring(node) is not None
    }


def classes():
    for name, tree in trees():
        for node in ast.walk(tree):
            if isinstance(node, ast.ClassDef):
                yield name, node


def methods_of(cls):
    return [node.name for node in cls.body if isinstance(node, ast.FunctionDef)]


def attributes_of(cls):
    """What the methods assign to an object."""
    return {node.attr for node in ast.walk(cls) if isinstance(node, ast.Attribute) and isinstance(node.ctx, ast.Store)}


class LanguageTest(unittest.TestCase):
    def test_files(self):
        names = [os.path.relpath(path, PACKAGE) for path in files()]
        self.assertIn("__init__.py", names)
        for path, name in zip(files(), names):
            with self.subTest(file=name):
                self.assertRegex(name, r"^(__init__|[a-z][a-z0-9_]*)\.py$")
                self.assertNotRegex(name, r"^(test|law_|site|conftest)")
                text = read(path)
                self.assertTrue(all(sign == "\n" or " " <= sign <= "~" for sign in text))
                self.assertLessEqual(len(text.splitlines()), 399)
                self.assertLessEqual(max(map(len, text.splitlines())), 120)

    def test_functions_are_short(self):
        for name, tree in trees():
            for node in ast.walk(tree):
                if isinstance(node, ast.FunctionDef):
                    self.assertLessEqual(node.end_lineno - node.lineno + 1, 40, (name, node.name))

    def test_module_level(self):
        for name, tree in trees():
            for node in tree.body:
                with self.subTest(file=name, line=node.lineno):
                    self.assertIsInstance(node, MODULE_LEVEL)
                    if isinstance(node, ast.Expr):
                        self.assertIs(node, tree.body[0])
                    if isinstance(node, ast.Assign):
                        self.assertEqual([own.__class__ for own in node.targets], [ast.Name])
            bound = list(top_names(tree))
            self.assertEqual(len(bound), len(set(bound)), name)

    def test_imports_name_the_file_that_defines(self):
        defined = {
            "handlepairs." + name[:-3]: [
                own for node in tree.body if not isinstance(node, ast.ImportFrom)
                for own in top_names(ast.Module([node], []))
            ]
            for name, tree in trees()
        }
        for name, tree in trees():
            for node in ast.walk(tree):
                if isinstance(node, ast.ImportFrom):
                    with self.subTest(file=name, line=node.lineno):
                        self.assertIn(node, tree.body)
                        self.assertEqual(node.level, 0)
                        known = LIBRARY.get(node.module) or defined[node.module]
                        for own in node.names:
                            self.assertIn(own.name, known)

    def test_no_two_files_import_from_each_other(self):
        needs = {
            name[:-3]: {
                node.module.split(".")[1] for node in tree.body
                if isinstance(node, ast.ImportFrom) and node.module not in LIBRARY
            }
            for name, tree in trees()
        }
        while needs:
            ready = {name for name, others in needs.items() if not others & set(needs)}
            self.assertTrue(ready, needs)
            needs = {name: others for name, others in needs.items() if name not in ready}

    def test_nodes(self):
        for name, tree in trees():
            for node in ast.walk(tree):
                with self.subTest(file=name, line=getattr(node, "lineno", None)):
                    self.assertNotIsInstance(node, BARRED_NODES)
                    if isinstance(node, ast.Constant):
                        self.assertNotIsInstance(node.value, (float, complex))
                    if isinstance(node, (ast.FunctionDef, ast.ClassDef)):
                        self.assertEqual(node.decorator_list, [])
                    if isinstance(node, ast.Compare):
                        self.check_compare(node)

    def check_compare(self, node):
        for sign, right in zip(node.ops, node.comparators):
            if isinstance(sign, (ast.Is, ast.IsNot)):
                self.assertIsInstance(right, ast.Constant)
                self.assertIn(right.value, (None, True, False))

    def test_builtins(self):
        for name, tree in trees():
            bound = set(bound_names(tree)) | set(top_names(tree))
            # No builtin is called _, but for what doctest, or an interpreter, keeps there.
            hidden = [own for own in bound if hasattr(builtins, own) and own != "_" and not own.startswith("__")]
            self.assertEqual(hidden, [], name)
            for node in ast.walk(tree):
                if isinstance(node, ast.Name) and node.id != "_" and hasattr(builtins, node.id):
                    self.assertIn(node.id, BUILTINS, (name, node.lineno))

    def test_no_name_hides_an_import_or_a_class(self):
        for name, tree in trees():
            kept = {
                own for node in tree.body if isinstance(node, (ast.ImportFrom, ast.ClassDef))
                for own in top_names(ast.Module([node], []))
            }
            for function in ast.walk(tree):
                if isinstance(function, ast.FunctionDef):
                    inner = {own for own in bound_names(function)}
                    self.assertEqual(inner & kept, set(), (name, function.name))

    def test_methods_of_values(self):
        own_methods = {method for _, cls in classes() for method in methods_of(cls)}
        for name, tree in trees():
            for node in ast.walk(tree):
                if isinstance(node, ast.Call) and isinstance(node.func, ast.Attribute):
                    self.assertIn(node.func.attr, METHODS | own_methods, (name, node.lineno))

    def test_classes(self):
        """No name is a method and an attribute, none is twice; what is read is assigned; no class stands as a value."""
        names = {cls.name for _, cls in classes()}
        self.assertIn("Desk", names)
        every_method = {own for _, cls in classes() for own in methods_of(cls)}
        every_attribute = {own for _, cls in classes() for own in attributes_of(cls)}
        for name, cls in classes():
            told = methods_of(cls)
            self.assertEqual(len(told), len(set(told)), (name, cls.name))
            self.assertEqual(set(told) & attributes_of(cls), set(), (name, cls.name))
        for name, tree in trees():
            called = {id(node.func) for node in ast.walk(tree) if isinstance(node, ast.Call)}
            asked = {id(node.args[1]) for node in ast.walk(tree) if isinstance(node, ast.Call) and len(node.args) == 2}
            bases = {id(own) for node in ast.walk(tree) if isinstance(node, ast.ClassDef) for own in node.bases}
            for node in ast.walk(tree):
                if isinstance(node, ast.Name) and node.id in names:
                    self.assertIn(id(node), called | asked | bases, (name, node.lineno))
                if isinstance(node, ast.Attribute) and id(node) not in called:
                    self.assertIn(node.attr, every_attribute, (name, node.lineno))
                    self.assertIsInstance(node.value, ast.Name, (name, node.lineno))
        self.assertEqual(every_method & every_attribute, set())

    def test_nothing_is_sorted_in_place_beside_a_class_that_compares(self):
        for name, tree in trees():
            for node in ast.walk(tree):
                self.assertNotEqual(getattr(node, "attr", None), "sort", name)

    def test_lists_and_dicts_of_modules_are_read_alone(self):
        for name, tree in trees():
            told = {
                node.targets[0].id for node in tree.body
                if isinstance(node, ast.Assign) and isinstance(node.value, (ast.List, ast.Dict))
            }
            fine = set()
            for node in ast.walk(tree):
                if isinstance(node, (ast.Subscript, ast.Attribute)):
                    fine.add(id(node.value))
                elif isinstance(node, ast.Compare):
                    fine |= {id(own) for own in node.comparators}
            for node in ast.walk(tree):
                if isinstance(node, ast.Name) and node.id in told and isinstance(node.ctx, ast.Load):
                    self.assertIn(id(node), fine, (name, node.lineno))

    def test_behind_a_star_stands_a_name(self):
        for name, tree in trees():
            for node in ast.walk(tree):
                if isinstance(node, ast.Starred):
                    self.assertIsInstance(node.value, ast.Name, (name, node.lineno))

    def test_sets_are_not_iterated(self):
        """A set comprehension or set(..) stands in sorted(..), len(..) or beside in, or is assigned to a name."""
        for name, tree in trees():
            fine = set()
            for node in ast.walk(tree):
                if isinstance(node, ast.Call) and getattr(node.func, "id", "") in ("sorted", "len") and not node.keywords:
                    fine |= {id(own) for part in node.args for own in joined_parts(part)}
                elif isinstance(node, ast.Compare):
                    fine |= {id(own) for own in node.comparators}
                elif isinstance(node, ast.Assign):
                    fine.add(id(node.value))
            for node in ast.walk(tree):
                if makes_set(node):
                    self.assertIn(id(node), fine, (name, node.lineno))

    def test_a_stored_set_is_asked_and_measured_alone(self):
        for name, tree in trees():
            for function in ast.walk(tree):
                if isinstance(function, ast.FunctionDef):
                    self.check_stored_sets(name, function)

    def check_stored_sets(self, name, function):
        stored = [
            node.targets[0].id for node in ast.walk(function) if isinstance(node, ast.Assign) and makes_set(node.value)
        ]
        self.assertEqual(len(stored), len(set(stored)), (name, function.name))
        fine = set()
        for node in ast.walk(function):
            if isinstance(node, ast.Call) and getattr(node.func, "id", "") in ("len", "sorted"):
                fine |= {id(own) for own in node.args}
            elif isinstance(node, ast.Compare):
                fine |= {id(own) for own in node.comparators}
            elif isinstance(node, ast.Attribute) and node.attr in ("add", "discard"):
                fine.add(id(node.value))
        for node in ast.walk(function):
            if isinstance(node, ast.Name) and node.id in stored and isinstance(node.ctx, ast.Load):
                self.assertIn(id(node), fine, (name, node.lineno))

    def test_what_is_drawn_from_itertools_is_iterated_at_once(self):
        for name, tree in trees():
            fine = set()
            for node in ast.walk(tree):
                if isinstance(node, (ast.For, ast.comprehension)):
                    fine.add(id(node.iter))
                elif isinstance(node, ast.Call) and getattr(node.func, "id", "") in ("list", "tuple", "sorted"):
                    fine |= {id(own) for own in node.args}
            for node in ast.walk(tree):
                if isinstance(node, ast.Call) and getattr(node.func, "id", "") in LIBRARY["itertools"]:
                    self.assertIn(id(node), fine, (name, node.lineno))

    def test_what_a_loop_goes_over_is_not_changed_in_it(self):
        changing = ("append", "extend", "insert", "pop", "remove", "reverse", "clear", "update", "setdefault", "sort")
        for name, tree in trees():
            for loop in ast.walk(tree):
                if isinstance(loop, ast.For):
                    over = {node.id for node in ast.walk(loop.iter) if isinstance(node, ast.Name)}
                    for node in [own for part in loop.body for own in ast.walk(part)]:
                        if isinstance(node, ast.Attribute) and node.attr in changing:
                            self.assertNotIn(getattr(node.value, "id", None), over, (name, node.lineno))
                        if isinstance(node, ast.Subscript) and not isinstance(node.ctx, ast.Load):
                            self.assertNotIn(getattr(node.value, "id", None), over, (name, node.lineno))

    def test_names(self):
        for name, tree in trees():
            for own in list(bound_names(tree)) + list(top_names(tree)):
                self.assertRegex(own, r"^(_|_?[A-Za-z][A-Za-z0-9_]*|__init__|__eq__)$", name)
                self.assertNotIn(own, BARRED_NAMES, name)
                self.assertNotRegex(own, r"^_?(wall|pe_|dcw_|enum_|cm_|twin_re_|lay_|law_|stub_|sre)", name)
            for node in ast.walk(tree):
                if isinstance(node, ast.Name) and node.id == "_":
                    self.assertNotIsInstance(node.ctx, ast.Load, (name, node.lineno))

    def test_exponents_and_calls_of_builtins(self):
        for name, tree in trees():
            for node in ast.walk(tree):
                if isinstance(node, ast.BinOp) and isinstance(node.op, ast.Pow):
                    self.assertIsInstance(node.right, ast.Constant, (name, node.lineno))
                if isinstance(node, ast.Call) and isinstance(node.func, ast.Name) and node.func.id in BUILTINS:
                    self.assertLessEqual({own.arg for own in node.keywords}, {"key", "reverse", "default", "start"})
                    self.assertFalse([own for own in node.args if isinstance(own, ast.Starred)], (name, node.lineno))

    def test_words_and_strings(self):
        for name, tree in trees():
            told = docstrings(tree)
            for node in ast.walk(tree):
                where = (name, getattr(node, "lineno", None))
                for word in (getattr(node, "id", None), getattr(node, "attr", None), getattr(node, "name", None)):
                    if isinstance(word, str):
                        self.assertNotRegex(word, BARRED_WORDS, where)
                        self.assertNotRegex(word, r"^__(?!init__|eq__)", where)
                if isinstance(node, ast.Constant) and isinstance(node.value, str):
                    self.assertNotIn("%", node.value, where)
                    if id(node) not in told:
                        self.assertNotRegex(node.value, BARRED_WORDS, where)
                        self.assertNotRegex(node.value, r"\._{1,2}$|__", where)


if __name__ == "__main__":
    unittest.main()
