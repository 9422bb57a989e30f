"""The package's files keep to the small part of Python that the program is written in.

The rules' numbers (L1 to L28) are those of ../shared/LANGUAGE.md; what can be seen file by file is checked here.
"""

import ast
import builtins
import os
import re
import unittest

PACKAGE = "modeyard"
FOLDER = os.path.join(os.path.dirname(os.path.dirname(os.path.abspath(__file__))), PACKAGE)

OWN_NAMES = """len range enumerate zip min max sum abs sorted reversed int str bool list tuple dict set frozenset
isinstance ord repr any all divmod Exception ValueError TypeError KeyError IndexError LookupError ZeroDivisionError
ArithmeticError OverflowError RuntimeError NotImplementedError AttributeError StopIteration""".split()
OWN_METHODS = """append clear copy count endswith extend find get index insert isalnum isalpha isdigit islower isspace
isupper items join keys ljust lower lstrip partition pop remove replace reverse rfind rjust rpartition rsplit rstrip
setdefault split splitlines startswith strip update upper values zfill bit_length""".split()
TWO_UNDERSCORES = "__init__ __eq__ __repr__ __str__ __len__".split()
NODES = """Module ImportFrom alias FunctionDef arguments arg ClassDef Return Assign AugAssign For While If Raise Try
ExceptHandler Expr Pass Break Continue BoolOp And Or BinOp Add Sub Mult FloorDiv Mod Pow LShift RShift BitOr BitXor
BitAnd UnaryOp Invert Not UAdd USub Lambda IfExp Dict List Tuple ListComp comprehension Compare Eq NotEq Lt LtE Gt
GtE Is IsNot In NotIn Call keyword JoinedStr FormattedValue Constant Attribute Subscript Slice Name Load
Store""".split()
NOWHERE = """register mro elements open input version_info with_traceback add_note format format_map attrgetter
breakpoint compile copyright credits delattr dir eval exec exit gc getattr globals hasattr help id importlib
license locals methodcaller os quit setattr super sys vars""".split()
WORDS = """type typing typing_extensions enum Enum IntEnum StrEnum Flag IntFlag Generic Protocol ABC ABCMeta namedtuple
NamedTuple TypedDict TYPE_CHECKING abstractmethod""".split()
PARTS_OF_WORDS = ["dataclass", "overload", "contextmanager"]
PLAIN_NAME = re.compile(r"[A-Za-z][A-Za-z0-9_]*\Z")
FILE_NAME = re.compile(r"([a-z][a-z0-9_]*|__init__)\.py\Z")


def texts():
    told = {}
    for name in sorted(os.listdir(FOLDER)):
        if name != "__pycache__":
            with open(os.path.join(FOLDER, name), "rb") as file:
                told[name] = file.read().decode("utf-8")
    return told


def trees():
    return {name: ast.parse(text) for name, text in texts().items()}


def bound_names(tree):
    names = []
    for node in ast.walk(tree):
        if isinstance(node, ast.Name) and isinstance(node.ctx, ast.Store):
            names.append(node.id)
        elif isinstance(node, ast.arg):
            names.append(node.arg)
        elif isinstance(node, (ast.FunctionDef, ast.ClassDef)):
            names.append(node.name)
        elif isinstance(node, ast.ExceptHandler) and node.name:
            names.append(node.name)
    return names


def top_names(tree):
    names = [node.name for node in tree.body if isinstance(node, (ast.FunctionDef, ast.ClassDef))]
    return names + [target.id for node in tree.body if isinstance(node, ast.Assign) for target in node.targets]


def inner_names(tree):
    """Parameters and locals."""
    told = []
    for node in ast.walk(tree):
        if isinstance(node, (ast.FunctionDef, ast.Lambda)):
            told += [name for part in ast.iter_child_nodes(node) for name in bound_names(part)]
    return told


def imported_names(tree):
    return [part.name for node in tree.body if isinstance(node, ast.ImportFrom) for part in node.names]


def classes(tree):
    return [node for node in tree.body if isinstance(node, ast.ClassDef)]


def method_names(tree):
    return [node.name for owner in classes(tree) for node in owner.body if isinstance(node, ast.FunctionDef)]


def value_names(tree):
    return [
        node.attr for node in ast.walk(tree)
        if isinstance(node, ast.Attribute) and isinstance(node.ctx, ast.Store)
    ]


class FileTest(unittest.TestCase):
    def test_files_and_signs(self):
        self.assertIn("__init__.py", texts())
        for name, text in texts().items():
            self.assertRegex(name, FILE_NAME)
            self.assertNotIn(name[:-3], dir(builtins))
            lines = text.split("\n")
            self.assertLessEqual(len(lines), 400, name)
            for line in lines:
                self.assertLessEqual(len(line), 120, name)
                self.assertTrue(all(" " <= sign <= "~" for sign in line), (name, line))

    def test_words(self):
        for name, text in texts().items():
            found = set(re.findall(r"[A-Za-z0-9_]+", text))
            self.assertEqual(found & set(WORDS), set(), name)
            for part in PARTS_OF_WORDS:
                self.assertNotIn(part, text, name)


class FormTest(unittest.TestCase):
    def each(self, kind):
        return [(f"{name}:{node.lineno}", node) for name, tree in trees().items()
                for node in ast.walk(tree) if isinstance(node, kind)]

    def test_nodes(self):
        for name, tree in trees().items():
            for node in ast.walk(tree):
                self.assertIn(node.__class__.__name__, NODES, (name, getattr(node, "lineno", 0)))

    def test_top_of_a_file(self):
        for name, tree in trees().items():
            self.assertTrue(ast.get_docstring(tree), name)
            for node in tree.body[1:]:
                self.assertIsInstance(node, (ast.ImportFrom, ast.FunctionDef, ast.ClassDef, ast.Assign), name)
            bound = top_names(tree)
            self.assertEqual(len(bound), len(set(bound)), name)

    def test_functions(self):
        for place, node in self.each(ast.FunctionDef):
            self.assertLessEqual(node.end_lineno - node.lineno + 1, 40, place)
            self.assertEqual(node.decorator_list, [], place)
            self.assertIsNone(node.args.vararg, place)
            self.assertIsNone(node.args.kwarg, place)
            self.assertEqual(node.args.kwonlyargs + node.args.posonlyargs, [], place)

    def test_classes(self):
        for place, node in self.each(ast.ClassDef):
            self.assertLessEqual(len(node.bases), 1, place)
            self.assertEqual(node.decorator_list + node.keywords, [], place)
            for part in node.body:
                self.assertIsInstance(part, (ast.FunctionDef, ast.Pass), place)
            methods = [part.name for part in node.body if isinstance(part, ast.FunctionDef)]
            self.assertEqual(len(methods), len(set(methods)), place)

    def test_statements(self):
        for place, node in self.each(ast.Assign):
            self.assertEqual(len(node.targets), 1, place)
        for place, node in self.each((ast.For, ast.While)):
            self.assertEqual(node.orelse, [], place)
        for place, node in self.each(ast.Try):
            self.assertEqual(node.finalbody, [], place)
        for place, node in self.each(ast.ExceptHandler):
            self.assertIsNotNone(node.type, place)
            self.assertNotIn(ast.unparse(node.type), ["Exception", "TypeError"], place)
        for name, tree in trees().items():
            for node in ast.walk(tree):
                if isinstance(node, ast.Expr) and node is not tree.body[0]:
                    self.assertIsInstance(node.value, ast.Call, (name, node.lineno))

    def test_expressions(self):
        for place, node in self.each(ast.Constant):
            self.assertTrue(node.value is None or isinstance(node.value, (int, str)), place)
            if isinstance(node.value, str):
                self.assertNotIn("%", node.value, place)
        for place, node in self.each(ast.ListComp):
            self.assertEqual(len(node.generators), 1, place)
            self.assertLessEqual(len(node.generators[0].ifs), 1, place)
        for place, node in self.each(ast.FormattedValue):
            self.assertIsInstance(node.value, ast.Name, place)
            self.assertIsNone(node.format_spec, place)
        for place, node in self.each(ast.Compare):
            for sign, side in zip(node.ops, node.comparators):
                if isinstance(sign, (ast.Is, ast.IsNot)):
                    self.assertIn(ast.unparse(side), ["None", "True", "False"], place)


def with_parents(tree):
    """Each node with the nodes that it stands in, the nearest one first."""
    told, left = [], [(tree, ())]
    while left:
        node, above = left.pop()
        told.append((node, above))
        left += [(part, (node,) + above) for part in ast.iter_child_nodes(node)]
    return told


def called(node):
    """The name or the method that is called."""
    if not isinstance(node, ast.Call):
        return None
    return node.func.id if isinstance(node.func, ast.Name) else getattr(node.func, "attr", None)


class UseTest(unittest.TestCase):
    def each(self):
        return [(name, node, above) for name, tree in trees().items() for node, above in with_parents(tree)]

    def test_exponents_are_written(self):
        for name, node, above in self.each():
            if isinstance(node, ast.BinOp) and isinstance(node.op, ast.Pow):
                self.assertIsInstance(node.right, ast.Constant, (name, node.lineno))
                self.assertIn(node.right.value, range(65), (name, node.lineno))

    def test_sets_are_not_kept(self):
        for name, node, above in self.each():
            if called(node) in ("set", "frozenset"):
                on_the_spot = isinstance(above[0], (ast.Compare, ast.BinOp)) or called(above[0]) in ("len", "sorted")
                self.assertTrue(on_the_spot, (name, node.lineno))

    def test_walks_are_on_the_spot(self):
        walked = ("zip", "enumerate", "reversed", "range", "items", "keys", "values")
        takers = ("list", "tuple", "dict", "sorted", "sum", "any", "all", "enumerate", "zip", "min", "max", "join")
        for name, node, above in self.each():
            if called(node) in walked:
                on_the_spot = isinstance(above[0], (ast.For, ast.comprehension)) or called(above[0]) in takers
                self.assertTrue(on_the_spot, (name, node.lineno))

    def test_keywords(self):
        own = ("key", "reverse", "default", "start", "strict")
        for name, node, above in self.each():
            if isinstance(node, ast.Call) and called(node) in dir(builtins) + OWN_METHODS:
                self.assertLessEqual({word.arg for word in node.keywords}, set(own), (name, node.lineno))

    def test_lists_and_dicts_of_a_files_top_are_only_read(self):
        for name, tree in trees().items():
            kept = [node.targets[0].id for node in tree.body
                    if isinstance(node, ast.Assign) and isinstance(node.value, (ast.List, ast.Dict))]
            for node, above in with_parents(tree):
                if isinstance(node, ast.Name) and node.id in kept and isinstance(node.ctx, ast.Load):
                    by_index = isinstance(above[0], ast.Subscript) and isinstance(above[0].ctx, ast.Load)
                    read = isinstance(above[0], (ast.Compare, ast.For, ast.comprehension)) or called(above[0]) == "len"
                    self.assertTrue(by_index or read, (name, node.lineno))

    def test_lists_and_dicts_of_a_files_top_hold_none(self):
        for name, tree in trees().items():
            for node in tree.body:
                if isinstance(node, ast.Assign) and isinstance(node.value, (ast.List, ast.Dict)):
                    inner = [part for part in ast.walk(node.value) if isinstance(part, (ast.List, ast.Dict))]
                    self.assertEqual(inner, [node.value], name)


class NameTest(unittest.TestCase):
    def test_bound_names(self):
        for name, tree in trees().items():
            methods = method_names(tree)
            for bound in bound_names(tree) + value_names(tree):
                if bound not in TWO_UNDERSCORES:
                    self.assertRegex(bound, PLAIN_NAME, name)
                self.assertNotIn(bound, NOWHERE, name)
                if bound not in methods + value_names(tree):
                    self.assertNotIn(bound, dir(builtins), name)

    def test_read_names(self):
        for name, tree in trees().items():
            bound = set(bound_names(tree))
            imported = set(imported_names(tree))
            for node in ast.walk(tree):
                if isinstance(node, ast.Name) and node.id not in bound | imported:
                    self.assertIn(node.id, OWN_NAMES, (name, node.lineno))

    def test_parameters_and_locals_have_names_of_their_own(self):
        for name, tree in trees().items():
            taken = imported_names(tree) + top_names(tree)
            self.assertEqual(set(inner_names(tree)) & set(taken), set(), name)

    def test_attributes(self):
        methods = [one for tree in trees().values() for one in method_names(tree)]
        values = [one for tree in trees().values() for one in value_names(tree)]
        self.assertEqual(set(methods) & set(values), set())
        known = OWN_METHODS + methods + values
        for name, tree in trees().items():
            for node in ast.walk(tree):
                if isinstance(node, ast.Attribute):
                    self.assertIn(node.attr, known, (name, node.lineno))
                    self.assertNotIn(node.attr, NOWHERE, (name, node.lineno))


class ImportTest(unittest.TestCase):
    def drawn(self):
        told = {}
        for name, tree in trees().items():
            told[name] = [node for node in ast.walk(tree) if isinstance(node, ast.ImportFrom)]
        return told

    def test_from_the_file_that_defines_the_name(self):
        files = trees()
        for name, rows in self.drawn().items():
            for row in rows:
                self.assertEqual(row.col_offset, 0, name)
                self.assertEqual(row.level, 0, name)
                self.assertRegex(row.module, PACKAGE + r"\.[a-z0-9_]+\Z", name)
                defined = top_names(files[row.module.split(".")[1] + ".py"])
                for part in row.names:
                    self.assertIn(part.name, defined, name)
                    self.assertIsNone(part.asname, name)

    def test_no_two_files_draw_from_one_another(self):
        draws = {name: [row.module.split(".")[1] + ".py" for row in rows] for name, rows in self.drawn().items()}
        while draws:
            ready = [name for name in draws if not set(draws[name]) & set(draws)]
            self.assertNotEqual(ready, [], draws)
            draws = {name: draws[name] for name in draws if name not in ready}


if __name__ == "__main__":
    unittest.main()
