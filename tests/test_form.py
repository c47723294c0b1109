"""The form of the package's own files, as far as it can be seen from the files alone."""

import ast
import builtins
import pathlib
import re
import unittest

FOLDER = pathlib.Path(__file__).resolve().parent.parent / "closepoints"

NODES = (
    ast.Module, ast.FunctionDef, ast.ClassDef, ast.ImportFrom, ast.alias, ast.arguments, ast.arg, ast.Lambda,
    ast.Assign, ast.AugAssign, ast.If, ast.While, ast.For, ast.Return, ast.Break, ast.Continue, ast.Pass,
    ast.Raise, ast.Try, ast.ExceptHandler, ast.Expr, ast.Constant, ast.List, ast.Tuple, ast.Dict, ast.Name,
    ast.Attribute, ast.Subscript, ast.Slice, ast.Call, ast.keyword, ast.BinOp, ast.UnaryOp, ast.BoolOp,
    ast.Compare, ast.IfExp, ast.ListComp, ast.comprehension, ast.JoinedStr, ast.FormattedValue,
    ast.expr_context, ast.operator, ast.unaryop, ast.boolop, ast.cmpop,
)

OWN_NAMES = set(
    "len range enumerate zip min max sum abs sorted reversed int str bool list tuple dict set frozenset isinstance "
    "ord repr any all divmod Exception ValueError TypeError KeyError IndexError LookupError ZeroDivisionError "
    "ArithmeticError OverflowError RuntimeError NotImplementedError AttributeError StopIteration".split()
)

METHODS = set(
    "append clear copy count endswith extend find get index insert isalnum isalpha isdigit islower isspace isupper "
    "items join keys ljust lower lstrip partition pop remove replace reverse rfind rjust rpartition rsplit rstrip "
    "setdefault split splitlines startswith strip update upper values zfill bit_length".split()
)

OWN_METHODS = METHODS | {"add", "discard"}
OWN_VALUES = set("count index title find get join lower upper split strip copy add".split())

WORDS_OUT = re.compile(
    r"\b(type|typing|typing_extensions|enum|Enum|IntEnum|StrEnum|Flag|IntFlag|Generic|Protocol|ABC|ABCMeta|"
    r"namedtuple|NamedTuple|TypedDict|TYPE_CHECKING|abstractmethod)\b|dataclass|overload|contextmanager"
)


def files():
    return [(path.name, path.read_text(encoding="utf-8")) for path in sorted(FOLDER.glob("*.py"))]


def nodes():
    return [(name, node) for name, text in files() for node in ast.walk(ast.parse(text))]


def bound_names(node):
    if isinstance(node, ast.arg):
        return [node.arg]
    if isinstance(node, (ast.FunctionDef, ast.ClassDef)):
        return [node.name]
    if isinstance(node, ast.Name) and isinstance(node.ctx, ast.Store):
        return [node.id]
    if isinstance(node, ast.ExceptHandler) and node.name:
        return [node.name]
    return []


class Form(unittest.TestCase):
    def test_nothing_but_plain_files_lies_in_the_package(self):
        for path in FOLDER.iterdir():
            if path.name != "__pycache__":
                self.assertRegex(path.name, r"\A([a-z][a-z0-9_]*|__init__)\.py\Z")

    def test_sizes_and_signs(self):
        for name, text in files():
            self.assertLessEqual(len(text.splitlines()), 400, name)
            self.assertRegex(text, r"\A[\n -~]*\Z", name)
            self.assertIsNone(WORDS_OUT.search(text), name)
            for row in text.splitlines():
                self.assertLessEqual(len(row), 120, (name, row))

    def test_functions_are_short_and_plain(self):
        for name, node in nodes():
            if isinstance(node, ast.FunctionDef):
                with self.subTest(name=name, function=node.name):
                    self.assertLessEqual(node.end_lineno - node.lineno + 1, 40)
                    self.assertEqual(node.decorator_list, [])
                    self.assertIsNone(node.args.vararg)
                    self.assertIsNone(node.args.kwarg)
                    self.assertEqual(node.args.kwonlyargs, [])

    def test_only_the_small_part_of_the_language_is_used(self):
        for name, node in nodes():
            with self.subTest(name=name, line=getattr(node, "lineno", 0)):
                self.assertIsInstance(node, NODES)
                self.assertNotIsInstance(node, (ast.Div, ast.MatMult))
                if isinstance(node, (ast.For, ast.While)):
                    self.assertEqual(node.orelse, [])
                if isinstance(node, ast.Try):
                    self.assertEqual(node.finalbody, [])
                if isinstance(node, ast.Assign):
                    self.assertEqual(len(node.targets), 1)
                if isinstance(node, ast.ListComp):
                    self.assertEqual(len(node.generators), 1)
                    self.assertLessEqual(len(node.generators[0].ifs), 1)
                if isinstance(node, ast.Constant):
                    self.assertIsInstance(node.value, (int, str, type(None)))

    def test_is_stands_beside_none_true_and_false_alone(self):
        for name, node in nodes():
            if isinstance(node, ast.Compare) and any(isinstance(one, (ast.Is, ast.IsNot)) for one in node.ops):
                right = node.comparators[-1]
                self.assertTrue(isinstance(right, ast.Constant) and right.value in (None, True, False), name)

    def test_imports_are_the_packages_own(self):
        homes = {}
        for name, text in files():
            for node in ast.parse(text).body:
                for bound in bound_names(node) + [one for part in ast.walk(node) for one in bound_names(part)]:
                    homes.setdefault("closepoints." + name[:-3], set()).add(bound)
        for name, node in nodes():
            if isinstance(node, ast.ImportFrom):
                with self.subTest(name=name, module=node.module):
                    self.assertEqual(node.level, 0)
                    for alias in node.names:
                        self.assertIn(alias.name, homes[node.module])

    def test_no_two_files_draw_from_one_another(self):
        drawn = {}
        for name, node in nodes():
            drawn.setdefault(name[:-3], set())
            if isinstance(node, ast.ImportFrom):
                drawn[name[:-3]].add(node.module.rpartition(".")[2])
        while drawn:
            free = [name for name in drawn if not drawn[name] & set(drawn)]
            self.assertTrue(free, drawn)
            drawn = {name: drawn[name] for name in drawn if name not in free}

    def test_names(self):
        pythons = set(dir(builtins))
        for name, node in nodes():
            for bound in bound_names(node):
                with self.subTest(name=name, bound=bound):
                    self.assertNotIn(bound, pythons)
                    self.assertTrue(not bound.startswith("_") or bound == "__init__")
            if isinstance(node, ast.Name) and node.id in pythons:
                self.assertIn(node.id, OWN_NAMES, name)

    def test_no_local_is_called_like_an_import_or_a_class_of_its_file(self):
        for name, text in files():
            tree = ast.parse(text)
            taken = set()
            for node in ast.walk(tree):
                if isinstance(node, ast.ImportFrom):
                    taken |= {alias.asname or alias.name for alias in node.names}
                if isinstance(node, ast.ClassDef):
                    taken.add(node.name)
            for node in ast.walk(tree):
                if not isinstance(node, ast.ClassDef):
                    for bound in bound_names(node):
                        self.assertNotIn(bound, taken, name)

    def test_methods_of_pythons_own_values(self):
        own = {node.name for name, node in nodes() if isinstance(node, ast.FunctionDef)}
        for name, node in nodes():
            if isinstance(node, ast.Call) and isinstance(node.func, ast.Attribute):
                self.assertIn(node.func.attr, METHODS | own, name)

    def test_methods_and_values_of_own_classes(self):
        pythons = {"args"}
        for kind in (str, int, list, tuple, dict, set, frozenset, bytes):
            pythons |= set(dir(kind))
        methods, values = set(), set()
        for name, node in nodes():
            if isinstance(node, ast.ClassDef):
                methods |= {part.name for part in node.body if isinstance(part, ast.FunctionDef)} - {"__init__"}
            if isinstance(node, ast.Attribute) and isinstance(node.ctx, ast.Store):
                self.assertIsInstance(node.value, ast.Name, name)
                values.add(node.attr)
        self.assertEqual(methods & values, set())
        self.assertEqual(methods & pythons - OWN_METHODS, set())
        self.assertEqual(values & pythons - OWN_VALUES, set())


if __name__ == "__main__":
    unittest.main()
