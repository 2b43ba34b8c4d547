"""The package keeps to its small part of Python, and its files stand as they must."""

import ast
import functools
import pathlib
import re
import unittest

PACKAGE = pathlib.Path(__file__).resolve().parent.parent / "oldhands"

NODES = """
Module FunctionDef ClassDef arguments arg Return Assign AugAssign For While If Raise Try ImportFrom alias Expr Pass
Break Continue ExceptHandler BoolOp BinOp UnaryOp Lambda IfExp Dict List Tuple Set ListComp comprehension Compare Call
keyword JoinedStr FormattedValue Constant Attribute Subscript Name Slice Load Store And Or Add Sub Mult FloorDiv Mod Pow
LShift RShift BitOr BitXor BitAnd Invert Not UAdd USub Eq NotEq Lt LtE Gt GtE Is IsNot In NotIn
""".split()

BUILTINS = """
len range enumerate zip min max sum abs sorted reversed int str bool list tuple dict set frozenset isinstance ord repr
any all divmod Exception ValueError TypeError KeyError IndexError LookupError ZeroDivisionError ArithmeticError
OverflowError RuntimeError NotImplementedError AttributeError StopIteration
""".split()

METHODS = """
append clear copy count endswith extend find get index insert isalnum isalpha isdigit islower isspace isupper items
join keys ljust lower lstrip partition pop remove replace reverse rfind rjust rpartition rsplit rstrip setdefault split
splitlines startswith strip update upper values zfill bit_length
""".split()

# What a class may have with two underscores, and what no value of an object is called.
DOUBLE = ("__init__", "__eq__", "__repr__", "__str__", "__len__")
NO_VALUES = """
items keys values pop update append clear extend insert remove reverse setdefault sort args encode format
""".split()

UNUSED = """
type typing typing_extensions enum Enum IntEnum StrEnum Flag IntFlag Generic Protocol ABC ABCMeta namedtuple NamedTuple
TypedDict TYPE_CHECKING abstractmethod
""".split()

FORBIDDEN = re.compile("|".join([rf"\b{word}\b" for word in UNUSED] + ["dataclass", "overload", "contextmanager"]))


def files():
    return sorted(PACKAGE.glob("*.py"))


def bound_names(tree):
    """Every name that a file binds somewhere."""
    found = set()
    for node in ast.walk(tree):
        if isinstance(node, (ast.FunctionDef, ast.ClassDef)):
            found.add(node.name)
        elif isinstance(node, ast.arg):
            found.add(node.arg)
        elif isinstance(node, ast.alias):
            found.add(node.asname or node.name)
        elif isinstance(node, ast.Name) and isinstance(node.ctx, ast.Store):
            found.add(node.id)
        elif isinstance(node, ast.ExceptHandler) and node.name:
            found.add(node.name)
    return found


@functools.cache
def own_methods():
    """Every method that a class of the package has."""
    found = set()
    for path in files():
        for node in ast.walk(ast.parse(path.read_text())):
            if isinstance(node, ast.ClassDef):
                found.update(inner.name for inner in node.body if isinstance(inner, ast.FunctionDef))
    return found


def stored_values(tree):
    """Every attribute that a file gives a value."""
    return {node.attr for node in ast.walk(tree) if isinstance(node, ast.Attribute) and isinstance(node.ctx, ast.Store)}


def with_parents(tree):
    """Pairs of a node and the nodes above it, the nearest first."""
    found = []
    pending = [(tree, ())]
    while pending:
        node, above = pending.pop()
        found.append((node, above))
        pending.extend((inner, (node,) + above) for inner in ast.iter_child_nodes(node))
    return found


def called_name(node):
    """The name that a node calls, None where it calls none."""
    return node.func.id if isinstance(node, ast.Call) and isinstance(node.func, ast.Name) else None


@functools.cache
def top_tables():
    """The names of lists and dicts that some file's top has."""
    found = set()
    for path in files():
        for node in ast.parse(path.read_text()).body:
            if isinstance(node, ast.Assign) and isinstance(node.value, (ast.List, ast.Dict)):
                found.add(node.targets[0].id)
    return found


class LanguageTest(unittest.TestCase):
    def each_file(self):
        self.assertTrue(files())
        for path in files():
            text = path.read_text(encoding="utf-8")
            yield path, text, ast.parse(text)

    def test_only_plain_files_lie_in_the_package(self):
        for path in PACKAGE.iterdir():
            if path.name != "__pycache__":
                self.assertRegex(path.name, r"^(__init__|[a-z][a-z0-9_]*)\.py$")
        self.assertTrue((PACKAGE / "__init__.py").is_file())

    def test_signs_and_words(self):
        for path, text, tree in self.each_file():
            self.assertRegex(text, r"\A[ -~\n]*\Z")
            self.assertIsNone(FORBIDDEN.search(text))

    def test_sizes(self):
        for path, text, tree in self.each_file():
            lines = text.splitlines()
            self.assertLessEqual(len(lines), 400)
            self.assertLessEqual(max(map(len, lines)), 120)
            for node in ast.walk(tree):
                if isinstance(node, ast.FunctionDef):
                    self.assertLessEqual(node.end_lineno - node.lineno + 1, 40, node.name)

    def test_forms(self):
        for path, text, tree in self.each_file():
            for node in ast.walk(tree):
                self.assertIn(type(node).__name__, NODES, f"{path.name} {ast.dump(node)}")
                self.look_at(node)

    def look_at(self, node):
        if isinstance(node, ast.Constant):
            self.assertIsInstance(node.value, (int, str, type(None)))
            self.assertNotIn("%", str(node.value))
        elif isinstance(node, (ast.FunctionDef, ast.ClassDef)):
            self.assertFalse(node.decorator_list)
        elif isinstance(node, ast.arguments):
            self.assertFalse(node.vararg or node.kwarg or node.kwonlyargs or node.posonlyargs)
        elif isinstance(node, ast.Assign):
            self.assertEqual(len(node.targets), 1)
        elif isinstance(node, (ast.For, ast.While)):
            self.assertFalse(node.orelse)
        elif isinstance(node, ast.Try):
            self.assertFalse(node.finalbody)
        elif isinstance(node, ast.ListComp):
            self.assertEqual(len(node.generators), 1)
            self.assertLessEqual(len(node.generators[0].ifs), 1)
        elif isinstance(node, ast.Compare):
            if any(isinstance(sign, (ast.Is, ast.IsNot)) for sign in node.ops):
                self.assertTrue(any(isinstance(side, ast.Constant) for side in node.comparators))

    def test_top_of_files(self):
        for path, text, tree in self.each_file():
            self.assertTrue(ast.get_docstring(tree))
            once = []
            for node in tree.body[1:]:
                self.assertIsInstance(node, (ast.ImportFrom, ast.FunctionDef, ast.ClassDef, ast.Assign))
                if isinstance(node, ast.Assign):
                    once.append(node.targets[0].id)
                    self.assertFalse([n for n in ast.walk(node.value) if isinstance(n, (ast.BinOp, ast.Call))])
                elif not isinstance(node, ast.ImportFrom):
                    once.append(node.name)
            self.assertEqual(len(once), len(set(once)))

    def test_names(self):
        for path, text, tree in self.each_file():
            bound = bound_names(tree)
            for name in bound - {"__init__"}:
                self.assertRegex(name, r"^[A-Za-z][A-Za-z0-9_]*$")
                self.assertNotIn(name, dir(__builtins__) if not isinstance(__builtins__, dict) else __builtins__)
            for node in ast.walk(tree):
                if isinstance(node, ast.Name):
                    self.assertTrue(node.id in bound or node.id in BUILTINS, node.id)
                elif isinstance(node, ast.Call) and isinstance(node.func, ast.Attribute):
                    self.assertTrue(node.func.attr in METHODS or node.func.attr in own_methods(), node.func.attr)

    def test_parameters_and_locals_are_called_unlike_imports(self):
        for path, text, tree in self.each_file():
            drawn = {alias.name for node in tree.body if isinstance(node, ast.ImportFrom) for alias in node.names}
            for node in tree.body:
                if isinstance(node, (ast.FunctionDef, ast.ClassDef)):
                    self.assertFalse(drawn & bound_names(node), f"{path.name} {node.name}")

    def test_lists_and_dicts_of_the_top_hold_no_others(self):
        for path, text, tree in self.each_file():
            for node in tree.body:
                if isinstance(node, ast.Assign):
                    held = [inner for inner in ast.walk(node.value) if isinstance(inner, (ast.List, ast.Dict, ast.Set))]
                    self.assertLessEqual(len(held), 1)

    def test_classes(self):
        for path, text, tree in self.each_file():
            for node in ast.walk(tree):
                if isinstance(node, ast.ClassDef):
                    self.assertIn(node, tree.body)
                    self.assertLessEqual(len(node.bases), 1)
                    self.assertTrue(ast.get_docstring(node))
                    names = [inner.name for inner in node.body[1:]]
                    self.assertEqual(len(names), len(set(names)))
                    self.assertFalse([name for name in names if name.startswith("_") and name not in DOUBLE])

    def test_no_name_is_a_method_and_a_value(self):
        for path, text, tree in self.each_file():
            stored = stored_values(tree)
            self.assertFalse(stored & own_methods())
            self.assertFalse(stored & set(NO_VALUES))
            for node in ast.walk(tree):
                if isinstance(node, ast.Attribute) and isinstance(node.ctx, ast.Store):
                    self.assertIsInstance(node.value, ast.Name)

    def each_node(self):
        for path, text, tree in self.each_file():
            for node, above in with_parents(tree):
                yield f"{path.name} {getattr(node, 'lineno', 0)}", node, above

    def test_f_strings_hold_plain_names(self):
        for told, node, above in self.each_node():
            if isinstance(node, ast.FormattedValue):
                self.assertIsInstance(node.value, ast.Name, told)
                self.assertIsNone(node.format_spec, told)

    def test_assignments_have_one_plain_target(self):
        for told, node, above in self.each_node():
            if isinstance(node, ast.Assign):
                self.assertIsInstance(node.targets[0], (ast.Name, ast.Attribute, ast.Subscript), told)

    def test_tables_of_the_top_are_only_read(self):
        for told, node, above in self.each_node():
            if isinstance(node, ast.Name) and isinstance(node.ctx, ast.Load) and node.id in top_tables():
                outer = above[0]
                read = isinstance(outer, ast.Subscript) and outer.value is node and isinstance(outer.ctx, ast.Load)
                read |= isinstance(outer, ast.Compare) and node in outer.comparators
                read |= isinstance(outer, (ast.For, ast.comprehension)) and outer.iter is node
                read |= isinstance(outer, ast.Attribute) and outer.attr in ("get", "items", "keys", "values")
                read |= called_name(outer) in ("len", "list", "dict", "sorted", "tuple")
                self.assertTrue(read, told)

    def test_walked_at_once(self):
        for told, node, above in self.each_node():
            is_view = isinstance(node, ast.Call) and isinstance(node.func, ast.Attribute) and node.func.attr in (
                "items", "keys", "values")
            if called_name(node) in ("zip", "enumerate", "reversed", "range") or is_view:
                outer = above[0]
                walked = isinstance(outer, (ast.For, ast.comprehension)) and outer.iter is node
                walked |= called_name(outer) in (
                    "list", "tuple", "dict", "sorted", "sum", "any", "all", "enumerate",
                    "zip") and outer.args[0] is node
                walked |= called_name(outer) in ("min", "max") and outer.args == [node]
                self.assertTrue(walked, told)

    def test_sets_are_not_kept(self):
        for told, node, above in self.each_node():
            self.assertNotIsInstance(node, ast.SetComp, told)
            if called_name(node) in ("set", "frozenset"):
                outer = above[0]
                self.assertTrue(isinstance(outer, ast.Compare) or called_name(outer) in ("sorted", "len"), told)

    def test_powers_and_keywords(self):
        allowed = {"sorted": ("key", "reverse"), "min": ("key", "default"), "max": ("key", "default"),
                   "sum": ("start",),
                   "enumerate": ("start",), "zip": ("strict",)}
        for told, node, above in self.each_node():
            if isinstance(node, ast.BinOp) and isinstance(node.op, ast.Pow):
                self.assertIsInstance(node.right, ast.Constant, told)
                self.assertIn(node.right.value, range(65), told)
            if isinstance(node, ast.Call) and node.keywords:
                self.assertLessEqual({one.arg for one in node.keywords}, set(allowed.get(called_name(node), ())), told)

    def test_classes_are_called_or_looked_for(self):
        classes = {node.name for told, node, above in self.each_node() if isinstance(node, ast.ClassDef)}
        for told, node, above in self.each_node():
            if isinstance(node, ast.Name) and node.id in classes:
                outer = above[1] if isinstance(above[0], ast.Tuple) else above[0]
                good = isinstance(outer, (ast.ExceptHandler, ast.ClassDef, ast.Raise))
                good |= isinstance(outer, ast.Call) and (outer.func is node or called_name(outer) == "isinstance")
                self.assertTrue(good, told)

    def test_errors_are_the_programs_own(self):
        classes = {node.name for told, node, above in self.each_node() if isinstance(node, ast.ClassDef)}
        for told, node, above in self.each_node():
            if isinstance(node, ast.ExceptHandler):
                some = node.type.elts if isinstance(node.type, ast.Tuple) else [node.type]
                self.assertLessEqual({one.id for one in some}, classes, told)
            if isinstance(node, ast.Raise):
                self.assertIn(called_name(node.exc), classes, told)

    def test_imports(self):
        drawn = {}
        for path, text, tree in self.each_file():
            rows = [node for node in ast.walk(tree) if isinstance(node, ast.ImportFrom)]
            self.assertTrue(all(node in tree.body for node in rows))
            drawn[path.stem] = [node.module for node in rows]
            used = {node.id for node in ast.walk(tree) if isinstance(node, ast.Name)}
            for node in rows:
                self.assertEqual(node.level, 0)
                self.assertRegex(node.module, r"^oldhands\.[a-z]+$")
                source = ast.parse((PACKAGE / (node.module.split(".")[1] + ".py")).read_text())
                own = {n.name for n in source.body if isinstance(n, (ast.FunctionDef, ast.ClassDef))}
                own |= {n.targets[0].id for n in source.body if isinstance(n, ast.Assign)}
                for alias in node.names:
                    self.assertIn(alias.name, own)
                    self.assertIn(alias.name, used)
        self.assertEqual(drawn["__init__"], [])
        self.assert_no_ring({name: [m.split(".")[1] for m in some] for name, some in drawn.items()})

    def assert_no_ring(self, drawn):
        while drawn:
            free = [name for name, some in drawn.items() if not any(other in drawn for other in some)]
            self.assertTrue(free, drawn)
            drawn = {name: some for name, some in drawn.items() if name not in free}


if __name__ == "__main__":
    unittest.main()
