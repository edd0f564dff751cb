"""Holds the package to those rules of its part of Python that a walk of the code can see.

The number of a rule stands in the name of its test.
"""

import ast
import builtins
import pathlib
import re
import unittest

PACKAGE = pathlib.Path(__file__).resolve().parent.parent / "fairbook"

STATEMENTS = (
    ast.FunctionDef, ast.ClassDef, ast.ImportFrom, ast.Assign, ast.AugAssign, ast.If, ast.While, ast.For,
    ast.Return, ast.Break, ast.Continue, ast.Pass, ast.Raise, ast.Try, ast.Expr,
)
EXPRESSIONS = (
    ast.Constant, ast.List, ast.Tuple, ast.Dict, ast.Set, ast.BinOp, ast.UnaryOp, ast.Compare, ast.BoolOp,
    ast.IfExp, ast.Call, ast.Attribute, ast.Subscript, ast.Slice, ast.ListComp, ast.JoinedStr,
    ast.FormattedValue, ast.Lambda, ast.Name,
)
BUILTINS = (
    "len range enumerate zip min max sum abs sorted reversed int str bool list tuple dict set frozenset "
    "isinstance ord repr any all divmod Exception ValueError TypeError KeyError IndexError LookupError "
    "ZeroDivisionError ArithmeticError OverflowError RuntimeError NotImplementedError AttributeError StopIteration"
).split()
METHODS = (
    "append clear copy count endswith extend find get index insert isalnum isalpha isdigit islower isspace "
    "isupper items join keys ljust lower lstrip partition pop remove replace reverse rfind rjust rpartition "
    "rsplit rstrip setdefault split splitlines startswith strip update upper values zfill bit_length"
).split()
DUNDER_METHODS = ("__init__", "__eq__", "__repr__", "__str__", "__len__")
WORDS_NOWHERE = (
    r"\b(type|typing|typing_extensions|enum|Enum|IntEnum|StrEnum|Flag|IntFlag|Generic|Protocol|ABC|ABCMeta"
    r"|namedtuple|NamedTuple|TypedDict|TYPE_CHECKING|abstractmethod)\b|dataclass|overload|contextmanager"
)
NAMES_NOWHERE = "register mro elements open input version_info with_traceback add_note".split()


def package_files():
    return sorted(PACKAGE.rglob("*.py"))


def nodes_of(path):
    return list(ast.walk(ast.parse(path.read_text(encoding="utf-8"))))


def bound_names(node):
    if isinstance(node, (ast.FunctionDef, ast.ClassDef)):
        return [node.name]
    if isinstance(node, ast.arg):
        return [node.arg]
    if isinstance(node, ast.Name) and isinstance(node.ctx, ast.Store):
        return [node.id]
    if isinstance(node, ast.Attribute) and isinstance(node.ctx, ast.Store):
        return [node.attr]
    return []


class LanguageCase(unittest.TestCase):
    def fault(self, path, node, words):
        self.fail(f"{path.name}:{node.lineno}: {words}")

    def walk(self):
        for path in package_files():
            for node in nodes_of(path):
                yield path, node


class FilesTest(LanguageCase):
    def test_l1_l14_only_plain_python_files(self):
        self.assertTrue((PACKAGE / "__init__.py").is_file())
        for path in PACKAGE.rglob("*"):
            if path.is_file() and "__pycache__" not in path.parts:
                self.assertRegex(path.name, r"\A([a-z][a-z0-9_]*|__init__|__main__)\.py\Z")
                self.assertNotRegex(path.name, r"\A(test|site|conftest)")

    def test_l10_l14_size_and_signs(self):
        for path in package_files():
            text = path.read_bytes().decode("ascii")
            self.assertNotRegex(text, r"[^\n -~]", path.name)
            rows = text.split("\n")
            self.assertLessEqual(len(rows), 400, path.name)
            self.assertLessEqual(max(len(row) for row in rows), 120, path.name)

    def test_l10_functions_of_40_lines(self):
        for path, node in self.walk():
            if isinstance(node, ast.FunctionDef) and node.end_lineno - node.lineno >= 40:
                self.fault(path, node, "a function of more than 40 lines")

    def test_l17_words_that_stand_nowhere(self):
        for path in package_files():
            self.assertNotRegex(path.read_text(encoding="utf-8"), WORDS_NOWHERE, path.name)


class FormTest(LanguageCase):
    def test_l2_l16_imports(self):
        for path, node in self.walk():
            if isinstance(node, ast.ImportFrom):
                self.assertEqual(node.level, 0, path.name)
                self.assertRegex(node.module, r"\Afairbook\.[a-z0-9_]+\Z", path.name)
                defined = nodes_of(PACKAGE / (node.module.split(".")[1] + ".py"))
                names = [name for other in defined for name in bound_names(other)]
                for alias in node.names:
                    self.assertIn(alias.name, names, path.name)

    def test_l4_l5_defs_and_classes(self):
        for path, node in self.walk():
            if isinstance(node, (ast.FunctionDef, ast.ClassDef)) and node.decorator_list:
                self.fault(path, node, "a decorator")
            if isinstance(node, ast.arguments):
                self.assertFalse(node.vararg or node.kwarg or node.kwonlyargs or node.posonlyargs, path.name)
            if isinstance(node, ast.ClassDef):
                self.assertLessEqual(len(node.bases), 1, path.name)
                for part in node.body:
                    self.assertIsInstance(part, (ast.FunctionDef, ast.Pass), path.name)

    def test_l6_statements(self):
        for path, node in self.walk():
            if isinstance(node, ast.stmt) and not isinstance(node, STATEMENTS):
                self.fault(path, node, "a statement that is out")
            if isinstance(node, (ast.While, ast.For)) and node.orelse:
                self.fault(path, node, "an else behind a loop")
            if isinstance(node, ast.Try) and node.finalbody:
                self.fault(path, node, "a finally")
            if isinstance(node, ast.Assign) and len(node.targets) > 1:
                self.fault(path, node, "more than one target")

    def test_l6_l3_what_stands_by_itself_is_a_call_or_the_first_row(self):
        for path in package_files():
            tree = ast.parse(path.read_text(encoding="utf-8"))
            self.assertIsNotNone(ast.get_docstring(tree), path.name)
            for node in ast.walk(tree):
                if isinstance(node, ast.Expr) and node is not tree.body[0]:
                    self.assertIsInstance(node.value, ast.Call, path.name)

    def test_l7_expressions(self):
        for path, node in self.walk():
            if isinstance(node, ast.expr) and not isinstance(node, EXPRESSIONS):
                self.fault(path, node, "an expression that is out")
            if isinstance(node, ast.BinOp) and isinstance(node.op, (ast.Div, ast.MatMult)):
                self.fault(path, node, "an operator that is out")
            if isinstance(node, ast.Constant) and not isinstance(node.value, (int, str, type(None))):
                self.fault(path, node, "a value that is out")
            if isinstance(node, ast.FormattedValue):
                self.assertIsInstance(node.value, ast.Name, path.name)
                self.assertIsNone(node.format_spec, path.name)

    def test_l20_is_stands_beside_none_true_and_false(self):
        for path, node in self.walk():
            if isinstance(node, ast.Compare) and isinstance(node.ops[0], (ast.Is, ast.IsNot)):
                self.assertIn(ast.unparse(node.comparators[0]), ("None", "True", "False"), path.name)

    def test_l27_no_percent_sign_within_a_text(self):
        for path, node in self.walk():
            if isinstance(node, ast.Constant) and isinstance(node.value, str) and "%" in node.value:
                self.fault(path, node, "a percent sign within a text")


class NamesTest(LanguageCase):
    def test_l8_l17_names_of_pythons_own(self):
        for path, node in self.walk():
            name = node.id if isinstance(node, ast.Name) else None
            if name is not None and hasattr(builtins, name) and name not in BUILTINS:
                self.fault(path, node, f"{name} is out")

    def test_l12_l15_l17_names_that_are_bound(self):
        for path, node in self.walk():
            for name in bound_names(node):
                if name in DUNDER_METHODS:
                    continue
                if name in NAMES_NOWHERE or name.startswith("_"):
                    self.fault(path, node, f"{name} is out")
                if hasattr(builtins, name) and not isinstance(node, ast.Attribute):
                    self.fault(path, node, f"{name} is a name of Python's own")

    def test_l15_a_name_is_bound_once_at_the_top(self):
        for path in package_files():
            tree = ast.parse(path.read_text(encoding="utf-8"))
            names = []
            for node in tree.body:
                names += [name for target in getattr(node, "targets", [node]) for name in bound_names(target)]
                names += [alias.asname or alias.name for alias in getattr(node, "names", [])]
            self.assertEqual(len(names), len(set(names)), path.name)

    def test_l15_no_parameter_or_local_is_called_like_a_class_or_an_import(self):
        for path in package_files():
            nodes = nodes_of(path)
            taken = {node.name for node in nodes if isinstance(node, ast.ClassDef)}
            taken |= {alias.name for node in nodes if isinstance(node, ast.ImportFrom) for alias in node.names}
            for node in nodes:
                if isinstance(node, (ast.arg, ast.Name)) and taken.intersection(bound_names(node)):
                    self.fault(path, node, "a parameter or local called like a class or an import")

    def test_l16_no_two_files_draw_from_one_another(self):
        drawn = {}
        for path in package_files():
            rows = [node for node in nodes_of(path) if isinstance(node, ast.ImportFrom)]
            drawn[path.stem] = {node.module.split(".")[1] for node in rows}
        while drawn:
            ready = [name for name in drawn if not drawn[name] & set(drawn)]
            self.assertTrue(ready, f"these draw from one another: {sorted(drawn)}")
            drawn = {name: drawn[name] for name in drawn if name not in ready}

    def test_l26_own_methods_and_values(self):
        pythons = {name for kind in (str, int, list, tuple, dict, set, bytes) for name in dir(kind)}
        free_methods = set(DUNDER_METHODS) | set(METHODS) | {"add", "discard"}
        self.assertEqual(self.own_methods() & pythons - free_methods, set())
        free_values = set("count index title find get join lower upper split strip copy add".split())
        self.assertEqual(self.own_values() & pythons - free_values, set())

    def test_l18_no_name_is_both_a_method_and_a_value(self):
        self.assertEqual(self.own_values() & self.own_methods(), set())

    def test_l25_methods_that_are_called(self):
        own = self.own_methods()
        for path, node in self.walk():
            if isinstance(node, ast.Call) and isinstance(node.func, ast.Attribute):
                if node.func.attr not in METHODS and node.func.attr not in own:
                    self.fault(path, node, f"the method {node.func.attr} is out")

    def own_values(self):
        return {n.attr for p, n in self.walk() if isinstance(n, ast.Attribute) and isinstance(n.ctx, ast.Store)}

    def own_methods(self):
        classes = [node for path, node in self.walk() if isinstance(node, ast.ClassDef)]
        return {part.name for one in classes for part in one.body if isinstance(part, ast.FunctionDef)}


class PatternTest(unittest.TestCase):
    def test_the_pattern_finds_whole_words_alone(self):
        for text in ("a type of", "my_dataclass_one"):
            self.assertTrue(re.search(WORDS_NOWHERE, text))
        for text in ("prototype", "enumerate(xs)"):
            self.assertIsNone(re.search(WORDS_NOWHERE, text))


if __name__ == "__main__":
    unittest.main()
