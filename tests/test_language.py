"""The part of LANGUAGE.md that can be read off the package's files: a test for each such rule.

What these tests can't see (L11 and parts of many others) is left to whoever reads the code.
"""

import ast
import builtins
import pathlib
import re
import unittest

PACKAGE = pathlib.Path(__file__).resolve().parent.parent / "panelplace"

NODES = (
    ast.Module, ast.FunctionDef, ast.ClassDef, ast.ImportFrom, ast.alias, ast.arguments, ast.arg,
    ast.Assign, ast.AugAssign, ast.If, ast.While, ast.For, ast.Return, ast.Break, ast.Continue, ast.Pass,
    ast.Raise, ast.Try, ast.ExceptHandler, ast.Expr,
    ast.Constant, ast.Name, ast.List, ast.Tuple, ast.Dict, ast.Set, ast.BinOp, ast.UnaryOp, ast.BoolOp,
    ast.Compare, ast.IfExp, ast.Call, ast.keyword, ast.Attribute, ast.Subscript, ast.Slice, ast.ListComp,
    ast.comprehension, ast.JoinedStr, ast.FormattedValue, ast.Lambda,
    ast.operator, ast.unaryop, ast.boolop, ast.cmpop, ast.expr_context,
)
BUILT_IN = """len range enumerate zip min max sum abs sorted reversed int str bool list tuple dict set frozenset
    isinstance ord repr any all divmod Exception ValueError TypeError KeyError IndexError LookupError
    ZeroDivisionError ArithmeticError OverflowError RuntimeError NotImplementedError AttributeError
    StopIteration""".split()
METHODS = """append clear copy count endswith extend find get index insert isalnum isalpha isdigit islower isspace
    isupper items join keys ljust lower lstrip partition pop remove replace reverse rfind rjust rpartition rsplit
    rstrip setdefault split splitlines startswith strip update upper values zfill bit_length""".split()
TWO_UNDERSCORES = ["__init__", "__eq__", "__repr__", "__str__", "__len__"]
NOT_NAMES = """register mro elements open input version_info with_traceback add_note attrgetter breakpoint builtins
    compile copyright credits delattr dir eval exec exit gc getattr globals hasattr help id importlib license locals
    methodcaller os quit setattr super vars sys format format_map chr""".split()
NOT_WORDS = """type typing typing_extensions enum Enum IntEnum StrEnum Flag IntFlag Generic Protocol ABC ABCMeta
    namedtuple NamedTuple TypedDict TYPE_CHECKING abstractmethod""".split()
NOT_VALUES = """items keys values pop update append clear extend insert remove reverse setdefault sort args encode
    format""".split()
MAY_BE_VALUES = "count index title find get join lower upper split strip copy add".split()
KEYWORDS = {
    "sorted": ["key", "reverse"], "min": ["key", "default"], "max": ["key", "default"], "sum": ["start"],
    "enumerate": ["start"], "zip": ["strict"],
}
WALKED_AT_ONCE = ["zip", "enumerate", "reversed", "range", "items", "keys", "values"]
WALKERS = "list tuple dict sorted sum any all enumerate zip min max join".split()
NOT_WITHIN_WORDS = ["dataclass", "overload", "contextmanager"]


def package_files():
    return sorted(PACKAGE.rglob("*.py"))


def trees():
    return [(path, ast.parse(path.read_text())) for path in package_files()]


def nodes_of(kind):
    return [(path, node) for path, tree in trees() for node in ast.walk(tree) if isinstance(node, kind)]


def bound_names():
    found = [(path, node.name) for path, node in nodes_of((ast.FunctionDef, ast.ClassDef))]
    found += [(path, node.arg) for path, node in nodes_of(ast.arg)]
    found += [(path, node.id) for path, node in nodes_of(ast.Name) if isinstance(node.ctx, ast.Store)]
    found += [(path, node.attr) for path, node in nodes_of(ast.Attribute) if isinstance(node.ctx, ast.Store)]
    return found


def called(node):
    return getattr(node.func, "id", getattr(node.func, "attr", None))


def own_methods():
    return [part.name for path, node in nodes_of(ast.ClassDef) for part in node.body
            if isinstance(part, ast.FunctionDef)]


def own_values():
    return [node.attr for path, node in nodes_of(ast.Attribute) if isinstance(node.ctx, ast.Store)]


def walked_on_the_spot(tree):
    found = [node.iter for node in ast.walk(tree) if isinstance(node, (ast.For, ast.comprehension))]
    for node in ast.walk(tree):
        if isinstance(node, ast.Call) and called(node) in WALKERS:
            found += node.args if called(node) == "zip" else node.args[:1]
    return found


def top_names(tree):
    names = [node.name for node in tree.body if isinstance(node, (ast.FunctionDef, ast.ClassDef))]
    for node in tree.body:
        if isinstance(node, ast.Assign):
            names += [target.id for target in node.targets]
    return names


def drawn_from():
    files = {}
    for path, tree in trees():
        files["panelplace." + path.stem] = [node.module for node in tree.body if isinstance(node, ast.ImportFrom)]
    return files


class Files(unittest.TestCase):
    def test_only_plain_py_files_lie_in_the_package(self):
        self.assertTrue((PACKAGE / "__init__.py").is_file())
        for path in PACKAGE.iterdir():
            if path.name != "__pycache__":
                self.assertRegex(path.name, r"^(__init__|__main__|[a-z][a-z0-9_]*)\.py$")
                self.assertNotRegex(path.stem, r"^(tests?|testing|test_.*|site|conftest|(site|user)customize)$")
                self.assertNotIn(path.stem, dir(builtins) + NOT_WORDS)

    def test_sizes_and_signs(self):
        for path in package_files():
            text = path.read_bytes().decode("ascii")
            rows = text.split("\n")
            self.assertLessEqual(len(rows), 400, path.name)
            for number, row in enumerate(rows, start=1):
                self.assertLessEqual(len(row), 120, (path.name, number))
                self.assertRegex(row, r"^[ -~]*$", (path.name, number))

    def test_functions_have_at_most_forty_lines(self):
        for path, node in nodes_of(ast.FunctionDef):
            self.assertLessEqual(node.end_lineno - node.lineno + 1, 40, (path.name, node.name))

    def test_words_that_stand_nowhere(self):
        for path in package_files():
            words = re.findall(r"\w+", path.read_text())
            for word in words:
                self.assertNotIn(word, NOT_WORDS, path.name)
                for part in NOT_WITHIN_WORDS:
                    self.assertNotIn(part, word, path.name)


class Imports(unittest.TestCase):
    def test_names_come_from_the_very_file_that_defines_them(self):
        files = {"panelplace." + path.stem: top_names(tree) for path, tree in trees()}
        for path, node in nodes_of(ast.ImportFrom):
            self.assertEqual(node.level, 0, path.name)
            for alias in node.names:
                self.assertIn(alias.name, files[node.module], path.name)

    def test_no_two_files_draw_from_one_another(self):
        files = drawn_from()
        while files:
            free = [name for name in files if not [other for other in files[name] if other in files]]
            self.assertTrue(free, files)
            files = {name: files[name] for name in files if name not in free}


class Form(unittest.TestCase):
    def test_nodes(self):
        for path, tree in trees():
            for node in ast.walk(tree):
                self.assertIsInstance(node, NODES, (path.name, getattr(node, "lineno", 0)))

    def test_the_top_of_a_module(self):
        for path, tree in trees():
            self.assertIsInstance(ast.get_docstring(tree), str, path.name)
            for node in tree.body[1:]:
                self.assertIsInstance(node, (ast.ImportFrom, ast.FunctionDef, ast.ClassDef, ast.Assign), path.name)
            names = top_names(tree)
            self.assertEqual(len(names), len(set(names)), path.name)

    def test_functions_have_plain_parameters(self):
        for path, node in nodes_of(ast.arguments):
            self.assertEqual((node.vararg, node.kwarg, node.kwonlyargs, node.posonlyargs), (None, None, [], []))
        for path, node in nodes_of((ast.FunctionDef, ast.ClassDef)):
            self.assertEqual(node.decorator_list, [], (path.name, node.name))

    def test_classes_hold_methods_alone(self):
        for path, node in nodes_of(ast.ClassDef):
            self.assertLessEqual(len(node.bases), 1, node.name)
            self.assertEqual(node.keywords, [], node.name)
            for part in node.body:
                self.assertIsInstance(part, (ast.FunctionDef, ast.Pass), node.name)

    def test_a_row_by_itself_is_a_call_or_the_docstring_of_a_file(self):
        docstrings = [tree.body[0].lineno for path, tree in trees()]
        self.assertEqual(set(docstrings), {1})
        for path, node in nodes_of(ast.Expr):
            if node.lineno != 1:
                self.assertIsInstance(node.value, ast.Call, (path.name, node.lineno))

    def test_loops_and_tries(self):
        for path, node in nodes_of((ast.For, ast.While)):
            self.assertEqual(node.orelse, [], (path.name, node.lineno))
        for path, node in nodes_of(ast.Try):
            self.assertEqual(node.finalbody, [], (path.name, node.lineno))
        for path, node in nodes_of(ast.ExceptHandler):
            self.assertIsNotNone(node.type, (path.name, node.lineno))
        for path, node in nodes_of(ast.Assign):
            self.assertEqual(len(node.targets), 1, (path.name, node.lineno))
            self.assertNotIsInstance(node.targets[0], (ast.Tuple, ast.List), (path.name, node.lineno))

    def test_comprehensions_have_one_for_and_at_most_one_if(self):
        for path, node in nodes_of(ast.ListComp):
            self.assertEqual(len(node.generators), 1, (path.name, node.lineno))
            self.assertLessEqual(len(node.generators[0].ifs), 1, (path.name, node.lineno))

    def test_values(self):
        for path, node in nodes_of(ast.Constant):
            self.assertIn(type(node.value), (int, str, bool, type(None)), (path.name, node.lineno))
            if isinstance(node.value, str):
                self.assertNotIn("%", node.value, (path.name, node.lineno))
        for path, node in nodes_of((ast.Div, ast.MatMult)):
            self.fail(path.name)
        for path, node in nodes_of(ast.FormattedValue):
            self.assertIsInstance(node.value, ast.Name, (path.name, node.lineno))
            self.assertIsNone(node.format_spec, (path.name, node.lineno))

    def test_only_the_packages_own_errors_are_taken(self):
        own = top_names(ast.parse((PACKAGE / "errors.py").read_text()))
        for path, node in nodes_of(ast.ExceptHandler):
            self.assertIn(getattr(node.type, "id", None), own, (path.name, node.lineno))

    def test_an_error_is_made_where_it_is_raised(self):
        for path, node in nodes_of(ast.Raise):
            self.assertIsInstance(node.exc, ast.Call, (path.name, node.lineno))
            self.assertRegex(called(node.exc), r"^[A-Z]", (path.name, node.lineno))

    def test_keywords(self):
        for path, node in nodes_of(ast.Call):
            if called(node) in dir(builtins) + METHODS:
                for keyword in node.keywords:
                    self.assertIn(keyword.arg, KEYWORDS.get(called(node), []), (path.name, node.lineno))

    def test_what_is_walked_is_walked_on_the_spot(self):
        for path, tree in trees():
            spots = walked_on_the_spot(tree)
            for node in ast.walk(tree):
                if isinstance(node, ast.Call) and called(node) in WALKED_AT_ONCE:
                    self.assertIn(node, spots, (path.name, node.lineno))

    def test_a_making_gives_back_nothing(self):
        for path, node in nodes_of(ast.FunctionDef):
            if node.name == "__init__":
                for part in ast.walk(node):
                    self.assertIsNone(getattr(part, "value", None) if isinstance(part, ast.Return) else None)

    def test_is_stands_beside_none_true_and_false_alone(self):
        for path, node in nodes_of(ast.Compare):
            for operator, right in zip(node.ops, node.comparators):
                if isinstance(operator, (ast.Is, ast.IsNot)):
                    self.assertIn(getattr(right, "value", 0), (None, True, False), (path.name, node.lineno))


class Names(unittest.TestCase):
    def test_pythons_own_names(self):
        for path, node in nodes_of(ast.Name):
            if node.id in dir(builtins):
                self.assertIn(node.id, BUILT_IN, (path.name, node.lineno))
                self.assertIsInstance(node.ctx, ast.Load, (path.name, node.lineno))

    def test_names_that_are_bound(self):
        for path, name in bound_names():
            if name not in TWO_UNDERSCORES:
                self.assertRegex(name, r"^[A-Za-z][A-Za-z0-9_]*$", path.name)
            self.assertNotIn(name, NOT_NAMES, path.name)

    def test_names_that_are_not_used(self):
        for path, node in nodes_of(ast.Name):
            self.assertNotIn(node.id, NOT_NAMES, (path.name, node.lineno))
        for path, node in nodes_of(ast.Attribute):
            self.assertNotIn(node.attr, NOT_NAMES, (path.name, node.lineno))

    def test_parameters_and_locals_have_no_name_of_pythons_own(self):
        for path, node in nodes_of(ast.arg):
            self.assertNotIn(node.arg, dir(builtins), (path.name, node.lineno))

    def test_parameters_and_locals_are_called_like_no_class_and_no_import_of_their_file(self):
        for path, tree in trees():
            taken = [node.name for node in tree.body if isinstance(node, ast.ClassDef)]
            for node in tree.body:
                if isinstance(node, ast.ImportFrom):
                    taken += [alias.name for alias in node.names]
            for node in ast.walk(tree):
                if isinstance(node, ast.arg):
                    self.assertNotIn(node.arg, taken, path.name)
                if isinstance(node, ast.Name) and isinstance(node.ctx, ast.Store):
                    self.assertNotIn(node.id, taken, path.name)

    def test_no_name_is_a_method_and_a_value(self):
        for path, node in nodes_of(ast.ClassDef):
            methods = [part.name for part in node.body if isinstance(part, ast.FunctionDef)]
            self.assertEqual(len(methods), len(set(methods)), node.name)
        self.assertEqual(set(own_methods()) & set(own_values()), set())

    def test_methods_and_values_have_free_names(self):
        pythons = [name for kind in (str, int, list, dict, set, bytes) for name in dir(kind)]
        for name in own_values():
            self.assertNotIn(name, NOT_VALUES)
            self.assertTrue(name not in pythons or name in MAY_BE_VALUES, name)
        for name in own_methods():
            self.assertTrue(name not in pythons or name in METHODS + TWO_UNDERSCORES + ["add", "discard"], name)

    def test_methods_are_the_packages_own_or_listed(self):
        own = [node.name for path, node in nodes_of(ast.FunctionDef)]
        for path, node in nodes_of(ast.Call):
            if isinstance(node.func, ast.Attribute):
                self.assertIn(node.func.attr, METHODS + own, (path.name, node.lineno))


if __name__ == "__main__":
    unittest.main()
