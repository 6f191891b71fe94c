"""The package keeps to its small part of Python, as far as that is told by looking at its files."""

import ast
import builtins
import pathlib
import re
import unittest

PACKAGE = pathlib.Path(__file__).resolve().parent.parent / "roundprice"

NODES = """Module Expr Assign AugAssign If While For Return Break Continue Pass Raise Try ExceptHandler
FunctionDef ClassDef Lambda arguments arg ImportFrom alias Constant List Tuple Dict Set Name Attribute Subscript
Slice Call keyword BinOp UnaryOp BoolOp Compare IfExp ListComp comprehension JoinedStr FormattedValue Load Store
Add Sub Mult FloorDiv Mod Pow BitAnd BitOr BitXor Invert LShift RShift USub UAdd Not And Or
Eq NotEq Lt LtE Gt GtE In NotIn Is IsNot""".split()

OWN_NAMES = """len range enumerate zip min max sum abs sorted reversed int str bool list tuple dict set frozenset
isinstance ord repr any all divmod Exception ValueError TypeError KeyError IndexError LookupError
ZeroDivisionError ArithmeticError OverflowError RuntimeError NotImplementedError AttributeError
StopIteration""".split()

SPECIAL = ("__init__", "__eq__", "__repr__", "__str__", "__len__")

METHODS = """append clear copy count endswith extend find get index insert isalnum isalpha isdigit islower isspace
isupper items join keys ljust lower lstrip partition pop remove replace reverse rfind rjust rpartition rsplit rstrip
setdefault split splitlines startswith strip update upper values zfill bit_length""".split()

WORDS_LEFT_OUT = re.compile(r"\b(type|typing|typing_extensions|enum|Enum|IntEnum|StrEnum|Flag|IntFlag|Generic|Protocol"
                            r"|ABC|ABCMeta|namedtuple|NamedTuple|TypedDict|TYPE_CHECKING|abstractmethod)\b"
                            r"|dataclass|overload|contextmanager")


def files():
    return sorted(path for path in PACKAGE.iterdir() if path.name != "__pycache__")


def nodes():
    """Every node of every file, each with the file's name."""
    return [(path.name, node) for path in files() for node in ast.walk(ast.parse(path.read_text("ascii")))]


def bound_names(node):
    """The names that this node itself binds."""
    if isinstance(node, ast.Name) and isinstance(node.ctx, ast.Store):
        return [node.id]
    if isinstance(node, ast.arg):
        return [node.arg]
    if isinstance(node, (ast.FunctionDef, ast.ClassDef)):
        return [node.name]
    if isinstance(node, ast.alias):
        return [node.asname or node.name]
    return []


def place(node):
    """Where the node stands, and what it says."""
    return (node.lineno, node.col_offset, ast.dump(node))


def own_attributes():
    """The names of the package's own methods, and of the values that its objects are given."""
    methods = [node.name for name, holder in nodes() if isinstance(holder, ast.ClassDef) for node in holder.body
               if isinstance(node, ast.FunctionDef)]
    values = [node.attr for name, node in nodes()
              if isinstance(node, ast.Attribute) and isinstance(node.ctx, ast.Store)]
    return (methods, values)


class Files(unittest.TestCase):
    def test_names(self):
        self.assertIn("__init__.py", [path.name for path in files()])
        for path in files():
            self.assertRegex(path.name, r"\A(__init__|[a-z][a-z0-9_]*)\.py\Z")

    def test_signs_and_size(self):
        for path in files():
            text = path.read_bytes().decode("ascii")
            self.assertRegex(text, r"\A[ -~\n]*\Z", path.name)
            rows = text.split("\n")
            self.assertLessEqual(len(rows), 400, path.name)
            self.assertLessEqual(max(len(row) for row in rows), 120, path.name)

    def test_words_left_out(self):
        for path in files():
            self.assertIsNone(WORDS_LEFT_OUT.search(path.read_text("ascii")), path.name)


class Code(unittest.TestCase):
    def test_only_the_listed_forms(self):
        for name, node in nodes():
            self.assertIn(type(node).__name__, NODES, (name, getattr(node, "lineno", None)))

    def test_values(self):
        for name, node in nodes():
            if isinstance(node, ast.Constant):
                self.assertIn(type(node.value), (int, str, bool, type(None)), (name, node.lineno))
                self.assertNotIn("%", str(node.value), (name, node.lineno))

    def test_imports_are_the_packages_own(self):
        for name, node in nodes():
            if isinstance(node, ast.ImportFrom):
                self.assertEqual(node.level, 0, name)
                self.assertRegex(node.module, r"\Aroundprice\.[a-z_]+\Z", name)
                self.assertNotIn("*", [alias.name for alias in node.names], name)

    def test_names(self):
        for name, node in nodes():
            if isinstance(node, ast.Name) and isinstance(node.ctx, ast.Load) and hasattr(builtins, node.id):
                self.assertIn(node.id, OWN_NAMES, (name, node.lineno))
            for bound in bound_names(node):
                if bound in SPECIAL:
                    continue
                self.assertRegex(bound, r"\A[A-Za-z][A-Za-z0-9_]*\Z", name)
                self.assertFalse(hasattr(builtins, bound), (name, bound))

    def test_functions(self):
        for name, node in nodes():
            if isinstance(node, ast.FunctionDef):
                self.assertLessEqual(node.end_lineno - node.lineno + 1, 40, (name, node.name))
                self.assertEqual(node.decorator_list, [], (name, node.name))
                self.assertIsNone(node.args.vararg or node.args.kwarg, (name, node.name))
                self.assertEqual(node.args.kwonlyargs, [], (name, node.name))

    def test_one_target(self):
        for name, node in nodes():
            if isinstance(node, ast.Assign):
                self.assertEqual(len(node.targets), 1, (name, node.lineno))
                self.assertNotIsInstance(node.targets[0], (ast.Tuple, ast.List), (name, node.lineno))

    def test_comprehensions(self):
        for name, node in nodes():
            if isinstance(node, ast.ListComp):
                self.assertEqual(len(node.generators), 1, (name, node.lineno))
                self.assertLessEqual(len(node.generators[0].ifs), 1, (name, node.lineno))

    def test_no_else_behind_a_loop_and_no_finally(self):
        for name, node in nodes():
            if isinstance(node, (ast.For, ast.While)):
                self.assertEqual(node.orelse, [], (name, node.lineno))
            if isinstance(node, ast.Try):
                self.assertEqual(node.finalbody, [], (name, node.lineno))

    def test_attributes(self):
        methods, values = own_attributes()
        self.assertEqual(set(methods) & set(values), set())
        for name, node in nodes():
            if isinstance(node, ast.Attribute):
                self.assertIn(node.attr, METHODS + methods + values, (name, node.lineno))

    def test_walked_at_once(self):
        walked = ("range", "zip", "enumerate", "reversed", "items", "keys", "values")
        takers = ("list", "tuple", "dict", "sorted", "sum", "any", "all", "enumerate", "zip", "min", "max")
        fitting = []
        for name, node in nodes():
            if isinstance(node, (ast.For, ast.comprehension)):
                fitting.append(place(node.iter))
            if isinstance(node, ast.Call) and isinstance(node.func, ast.Name) and node.func.id in takers and node.args:
                fitting.append(place(node.args[0]))
        for name, node in nodes():
            if isinstance(node, ast.Call):
                called = getattr(node.func, "id", getattr(node.func, "attr", None))
                if called in walked:
                    self.assertIn(place(node), fitting, (name, node.lineno))

    def test_is_stands_beside_none_true_and_false(self):
        for name, node in nodes():
            if isinstance(node, ast.Compare) and any(isinstance(sign, (ast.Is, ast.IsNot)) for sign in node.ops):
                sides = [side.value for side in [node.left] + node.comparators if isinstance(side, ast.Constant)]
                self.assertTrue(any(side in (None, True, False) for side in sides), (name, node.lineno))

    def test_written_exponents(self):
        for name, node in nodes():
            if isinstance(node, ast.BinOp) and isinstance(node.op, ast.Pow):
                self.assertIsInstance(node.right, ast.Constant, (name, node.lineno))
                self.assertLessEqual(node.right.value, 64, (name, node.lineno))


class Modules(unittest.TestCase):
    def test_what_stands_at_the_top(self):
        for path in files():
            body = ast.parse(path.read_text("ascii")).body
            self.assertIsNotNone(ast.get_docstring(ast.Module(body, [])), path.name)
            for node in body[1:]:
                self.assertIn(type(node), (ast.ImportFrom, ast.FunctionDef, ast.ClassDef, ast.Assign), path.name)
                if isinstance(node, ast.Assign):
                    ast.literal_eval(node.value)

    def test_no_local_is_called_like_an_import_a_def_or_a_class(self):
        for path in files():
            tree = ast.parse(path.read_text("ascii"))
            top = [bound for node in tree.body for part in [node] + getattr(node, "names", [])
                   for bound in bound_names(part)]
            self.assertEqual(len(top), len(set(top)), path.name)
            for node in ast.walk(tree):
                if isinstance(node, ast.arg) or isinstance(node, ast.Name) and isinstance(node.ctx, ast.Store):
                    if node not in [target for part in tree.body for target in getattr(part, "targets", [])]:
                        self.assertNotIn(bound_names(node)[0], top, (path.name, node.lineno))

    def test_no_two_files_draw_from_one_another(self):
        drawn = {}
        for path in files():
            tree = ast.parse(path.read_text("ascii"))
            drawn[path.stem] = {node.module.split(".")[1] for node in tree.body if isinstance(node, ast.ImportFrom)}
        while drawn:
            free = [name for name in drawn if not drawn[name] & set(drawn)]
            self.assertTrue(free, drawn)
            for name in free:
                del drawn[name]

    def test_names_are_drawn_from_the_file_that_defines_them(self):
        for name, node in nodes():
            if isinstance(node, ast.ImportFrom):
                source = ast.parse((PACKAGE / (node.module.split(".")[1] + ".py")).read_text("ascii"))
                defined = [bound for part in source.body for piece in [part] + getattr(part, "targets", [])
                           for bound in bound_names(piece)]
                for alias in node.names:
                    self.assertIn(alias.name, defined, (name, node.lineno))


if __name__ == "__main__":
    unittest.main()
