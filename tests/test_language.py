"""The package keeps to the part of the language that is laid down for it, where a look at the code can tell."""

import ast
import builtins
import pathlib
import re
import unittest

PACKAGE = pathlib.Path(__file__).resolve().parent.parent / "cheapcovers"

STATEMENTS = (
    ast.FunctionDef, ast.ClassDef, ast.Assign, ast.AugAssign, ast.If, ast.While, ast.For, ast.Return, ast.Break,
    ast.Continue, ast.Pass, ast.Raise, ast.Try, ast.Expr, ast.ImportFrom,
)

NOT_USED = (
    ast.SetComp, ast.DictComp, ast.GeneratorExp, ast.NamedExpr, ast.Starred, ast.Div, ast.MatMult, ast.Yield,
    ast.YieldFrom, ast.Await,
)

PYTHONS_OWN = (
    "len range enumerate zip min max sum abs sorted reversed int str bool list tuple dict set frozenset isinstance "
    "ord repr any all divmod Exception ValueError TypeError KeyError IndexError LookupError ZeroDivisionError "
    "ArithmeticError OverflowError RuntimeError NotImplementedError AttributeError StopIteration"
).split()

WALKED = ("zip", "enumerate", "reversed", "range", "items", "keys", "values")
WALKERS = ("list", "tuple", "dict", "sorted", "sum", "any", "all", "enumerate", "zip")

WORDS_OUT = (
    "type typing typing_extensions enum Enum IntEnum StrEnum Flag IntFlag Generic Protocol ABC ABCMeta namedtuple "
    "NamedTuple TypedDict TYPE_CHECKING abstractmethod"
).split()

METHODS = (
    "append clear copy count endswith extend find get index insert isalnum isalpha isdigit islower isspace isupper "
    "items join keys ljust lower lstrip partition pop remove replace reverse rfind rjust rpartition rsplit rstrip "
    "setdefault split splitlines startswith strip update upper values zfill bit_length"
).split()


def files():
    return sorted(path for path in PACKAGE.rglob("*") if path.is_file() and "__pycache__" not in path.parts)


def trees():
    return [(path.name, ast.parse(path.read_text("ascii"))) for path in files()]


def nodes():
    return [(name, node) for name, tree in trees() for node in ast.walk(tree)]


def called(node):
    """The name of the function or method that a call calls; None of all else."""
    if not isinstance(node, ast.Call):
        return None
    return node.func.id if isinstance(node.func, ast.Name) else getattr(node.func, "attr", None)


def with_parents():
    return [(name, child, node) for name, node in nodes() for child in ast.iter_child_nodes(node)]


def own_names(tree):
    """The names of a file's classes and of all that it imports."""
    names = [node.name for node in tree.body if isinstance(node, ast.ClassDef)]
    rows = [node for node in tree.body if isinstance(node, ast.ImportFrom)]
    return names + [alias.name for row in rows for alias in row.names]


class Language(unittest.TestCase):
    def test_files(self):
        self.assertIn(PACKAGE / "__init__.py", files())
        for path in files():
            self.assertRegex(path.name, r"\A(__init__|[a-z][a-z0-9_]*)\.py\Z")
            lines = path.read_text("ascii").split("\n")
            self.assertLessEqual(len(lines), 401, path.name)
            for line in lines:
                self.assertRegex(line, r"\A[ -~]{0,120}\Z", path.name)
            for word in re.findall(r"\w+", path.read_text("ascii")):
                self.assertNotIn(word, WORDS_OUT, path.name)
                self.assertNotRegex(word, "dataclass|overload|contextmanager", path.name)

    def test_imports_are_of_the_package_alone(self):
        for name, node in nodes():
            if isinstance(node, ast.ImportFrom):
                self.assertEqual(node.level, 0, name)
                self.assertTrue(node.module.startswith("cheapcovers."), (name, node.module))
                self.assertNotIn("*", [alias.name for alias in node.names], name)

    def test_statements_and_expressions(self):
        for name, node in nodes():
            where = (name, getattr(node, "lineno", 0))
            if isinstance(node, ast.stmt):
                self.assertIsInstance(node, STATEMENTS, where)
            self.assertNotIsInstance(node, NOT_USED, where)
            if isinstance(node, ast.Assign):
                self.assertEqual(len(node.targets), 1, where)
            if isinstance(node, (ast.For, ast.While)):
                self.assertEqual(node.orelse, [], where)
            if isinstance(node, ast.ListComp):
                self.assertEqual(len(node.generators), 1, where)
                self.assertLessEqual(len(node.generators[0].ifs), 1, where)
            if isinstance(node, ast.Constant):
                self.assertNotIsInstance(node.value, (float, complex, bytes), where)

    def test_functions_are_small_and_plain(self):
        for name, node in nodes():
            if isinstance(node, ast.FunctionDef):
                where = (name, node.name)
                self.assertLessEqual(node.end_lineno - node.lineno + 1, 40, where)
                self.assertEqual(node.decorator_list, [], where)
                self.assertEqual(node.args.kwonlyargs, [], where)
                self.assertEqual((node.args.vararg, node.args.kwarg), (None, None), where)

    def test_names(self):
        for name, node in nodes():
            if isinstance(node, ast.Name):
                self.assertFalse(node.id.startswith("_"), (name, node.id))
                if node.id in dir(builtins):
                    self.assertIn(node.id, PYTHONS_OWN, name)
                    self.assertIsInstance(node.ctx, ast.Load, (name, node.id))
            if isinstance(node, ast.arg):
                self.assertNotIn(node.arg, dir(builtins), name)

    def test_methods_are_of_the_list_or_own(self):
        own = [node.name for name, node in nodes() if isinstance(node, ast.FunctionDef)]
        for name, node in nodes():
            if isinstance(node, ast.Call) and isinstance(node.func, ast.Attribute):
                self.assertIn(node.func.attr, METHODS + own + ["__init__"], name)

    def test_what_is_walked_is_walked_on_the_spot(self):
        for name, child, parent in with_parents():
            if called(child) in WALKED:
                where = (name, child.lineno)
                if isinstance(parent, (ast.For, ast.comprehension)):
                    self.assertIs(child, parent.iter, where)
                else:
                    self.assertIn(called(parent), WALKERS, where)
                    self.assertIs(child, parent.args[0], where)

    def test_sets_are_not_kept(self):
        for name, child, parent in with_parents():
            self.assertNotIsInstance(child, ast.Set, name)
            self.assertNotEqual(called(child), "frozenset", name)
            if called(child) == "set":
                self.assertIn(called(parent), ("sorted", "len"), (name, child.lineno))
                self.assertEqual(parent.keywords, [], (name, child.lineno))

    def test_is_stands_beside_none_and_truths_alone(self):
        for name, node in nodes():
            if isinstance(node, ast.Compare) and any(isinstance(sign, (ast.Is, ast.IsNot)) for sign in node.ops):
                self.assertEqual(len(node.ops), 1, (name, node.lineno))
                self.assertIsInstance(node.comparators[0], ast.Constant, (name, node.lineno))
                self.assertIn(node.comparators[0].value, (None, True, False), (name, node.lineno))

    def test_no_local_is_called_like_an_import_or_a_class(self):
        for name, tree in trees():
            for node in ast.walk(tree):
                if isinstance(node, ast.arg):
                    self.assertNotIn(node.arg, own_names(tree), name)
                if isinstance(node, ast.Name) and isinstance(node.ctx, ast.Store):
                    self.assertNotIn(node.id, own_names(tree), name)

    def test_imports_are_used_and_defined_where_they_are_drawn_from(self):
        defined = {}
        for name, tree in trees():
            kinds = (ast.FunctionDef, ast.ClassDef)
            values = [node.targets[0].id for node in tree.body if isinstance(node, ast.Assign)]
            made = [node.name for node in tree.body if isinstance(node, kinds)]
            defined["cheapcovers." + name[:-3]] = made + values
        for name, tree in trees():
            used = [node.id for node in ast.walk(tree) if isinstance(node, ast.Name)]
            for node in tree.body:
                if isinstance(node, ast.ImportFrom):
                    for alias in node.names:
                        self.assertIn(alias.name, defined[node.module], name)
                        self.assertIn(alias.name, used, name)
                        self.assertIsNone(alias.asname, name)

    def test_no_two_files_draw_from_one_another(self):
        drawn = {}
        for name, tree in trees():
            drawn["cheapcovers." + name[:-3]] = [node.module for node in tree.body if isinstance(node, ast.ImportFrom)]
        settled = []
        while len(settled) < len(drawn):
            more = [name for name in drawn if name not in settled and set(drawn[name]) <= set(settled)]
            self.assertTrue(more, "files draw from one another")
            settled.extend(more)

    def test_methods_and_values_of_objects_are_called_otherwise_and_unlike_pythons_own(self):
        own = [name for kind in (str, int, list, tuple, dict, set, bytes) for name in dir(kind)]
        classes = [(name, node) for name, node in nodes() if isinstance(node, ast.ClassDef)]
        methods = [part.name for name, node in classes for part in node.body if isinstance(part, ast.FunctionDef)]
        values = [node.attr for name, node in nodes() if isinstance(node, ast.Attribute)
                  and isinstance(node.ctx, ast.Store)]
        for name in values + [name for name in methods if name != "__init__"]:
            self.assertNotIn(name, own)
        self.assertEqual(set(methods) & set(values), set())
        for name, node in classes:
            inner = [part.name for part in node.body if isinstance(part, ast.FunctionDef)]
            self.assertEqual(len(inner), len(set(inner)), (name, node.name))
            self.assertLessEqual(len(node.bases), 1, (name, node.name))
            self.assertEqual(node.decorator_list, [], (name, node.name))
            for part in node.body:
                self.assertIsInstance(part, (ast.FunctionDef, ast.Pass), (name, node.name))

    def test_only_own_errors_are_taken_and_raised(self):
        tree = ast.parse((PACKAGE / "errors.py").read_text("ascii"))
        own = [node.name for node in tree.body if isinstance(node, ast.ClassDef)]
        for name, node in nodes():
            if isinstance(node, ast.ExceptHandler):
                self.assertIn(getattr(node.type, "id", None), own, name)
            if isinstance(node, ast.Raise):
                self.assertIn(called(node.exc), own, name)

    def test_lists_and_dicts_of_a_files_top_hold_none(self):
        for name, tree in trees():
            for node in tree.body:
                if isinstance(node, ast.Assign):
                    inner = [part for part in ast.walk(node.value) if isinstance(part, (ast.List, ast.Dict))]
                    self.assertEqual([part for part in inner if part is not node.value], [], name)

    def test_texts(self):
        for name, node in nodes():
            if isinstance(node, ast.Constant) and isinstance(node.value, str):
                self.assertNotIn("%", node.value, name)


if __name__ == "__main__":
    unittest.main()
