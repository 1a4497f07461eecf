"""The package keeps to the part of Python that ../shared/LANGUAGE.md tells, as far as a walk of its code shows it."""

import ast
import builtins
import pathlib
import re
import unittest

PACKAGE = pathlib.Path(__file__).resolve().parent.parent / "understood"

STATEMENTS = (
    ast.Assign, ast.AugAssign, ast.If, ast.While, ast.For, ast.Return, ast.Break, ast.Continue, ast.Pass,
    ast.Raise, ast.Try, ast.Expr, ast.FunctionDef, ast.ClassDef, ast.ImportFrom)
RULED_OUT = (
    ast.Div, ast.MatMult, ast.SetComp, ast.DictComp, ast.GeneratorExp, ast.NamedExpr, ast.Starred, ast.Await,
    ast.Yield, ast.YieldFrom, ast.AnnAssign, ast.Set)
BUILT_IN = set(
    "len range enumerate zip min max sum abs sorted reversed int str bool list tuple dict set frozenset isinstance"
    " ord repr any all divmod Exception ValueError TypeError KeyError IndexError LookupError ZeroDivisionError"
    " ArithmeticError OverflowError RuntimeError NotImplementedError AttributeError StopIteration".split())
METHODS = set(
    "append clear copy count endswith extend find get index insert isalnum isalpha isdigit islower isspace isupper"
    " items join keys ljust lower lstrip partition pop remove replace reverse rfind rjust rpartition rsplit rstrip"
    " setdefault split splitlines startswith strip update upper values zfill bit_length".split())
UNDERSCORED = ("__init__", "__eq__", "__repr__", "__str__", "__len__")
WORDS = re.compile(
    r"\b(type|typing|typing_extensions|enum|Enum|IntEnum|StrEnum|Flag|IntFlag|Generic|Protocol|ABC|ABCMeta"
    r"|namedtuple|NamedTuple|TypedDict|TYPE_CHECKING|abstractmethod)\b|dataclass|overload|contextmanager")


def bound_names(tree):
    names = []
    for node in ast.walk(tree):
        if isinstance(node, (ast.FunctionDef, ast.ClassDef)):
            names.append(node.name)
        elif isinstance(node, ast.arg):
            names.append(node.arg)
        elif isinstance(node, ast.Name) and isinstance(node.ctx, ast.Store):
            names.append(node.id)
        elif isinstance(node, ast.Attribute) and isinstance(node.ctx, ast.Store):
            names.append(node.attr)
        elif isinstance(node, ast.ExceptHandler) and node.name:
            names.append(node.name)
    return names


def local_names(tree):
    """The names that are bound in a function or method, without those of its object's values."""
    return [node.id if isinstance(node, ast.Name) else node.arg for node in ast.walk(tree)
            if isinstance(node, ast.arg) or isinstance(node, ast.Name) and isinstance(node.ctx, ast.Store)]


class Language(unittest.TestCase):
    def setUp(self):
        self.sources = {path: path.read_bytes().decode("utf-8") for path in sorted(PACKAGE.rglob("*.py"))}
        self.trees = {path: ast.parse(source) for path, source in self.sources.items()}
        self.assertTrue(self.sources)

    def nodes(self):
        for path, tree in self.trees.items():
            for node in ast.walk(tree):
                yield f"{path.name}:{getattr(node, 'lineno', 0)}", node

    def test_files(self):
        for path in PACKAGE.rglob("*"):
            if "__pycache__" not in path.parts:
                self.assertRegex(path.name, r"^([a-z][a-z0-9_]*|__init__|__main__)\.py$")
                self.assertNotIn(path.stem, [name for name in dir(builtins) if not name.startswith("_")])

    def test_size_and_signs(self):
        for path, source in self.sources.items():
            rows = source.split("\n")
            self.assertLessEqual(len(rows), 400, path)
            for row in rows:
                self.assertLessEqual(len(row), 120, (path, row))
                self.assertRegex(row, r"^[ -~]*$", path)
        for where, node in self.nodes():
            if isinstance(node, ast.FunctionDef):
                self.assertLessEqual(node.end_lineno - node.lineno + 1, 40, where)

    def test_words_that_stand_nowhere(self):
        for path, source in self.sources.items():
            self.assertIsNone(WORDS.search(source), path)

    def test_imports(self):
        for where, node in self.nodes():
            if isinstance(node, ast.ImportFrom):
                self.assertEqual(node.level, 0, where)
                self.assertTrue(node.module.startswith("understood."), where)
                self.assertNotIn("*", [name.name for name in node.names], where)

    def test_statements_and_expressions(self):
        for where, node in self.nodes():
            if isinstance(node, ast.stmt):
                self.assertIsInstance(node, STATEMENTS, where)
            self.assertNotIsInstance(node, RULED_OUT, where)
            if isinstance(node, ast.Assign):
                self.assertEqual(len(node.targets), 1, where)
            if isinstance(node, (ast.While, ast.For)):
                self.assertEqual(node.orelse, [], where)
            if isinstance(node, ast.Try):
                self.assertEqual(node.finalbody, [], where)
            if isinstance(node, (ast.FunctionDef, ast.ClassDef)):
                self.assertEqual(node.decorator_list, [], where)
            if isinstance(node, ast.Constant):
                self.assertIn(type(node.value), (int, str, bool, type(None)), where)

    def test_names(self):
        for path, tree in self.trees.items():
            for name in bound_names(tree):
                if name not in UNDERSCORED:
                    self.assertRegex(name, r"^[A-Za-z][A-Za-z0-9_]*$", path)
                    self.assertFalse(hasattr(builtins, name), (path, name))

    def test_names_of_pythons_own(self):
        for where, node in self.nodes():
            if isinstance(node, ast.Name) and hasattr(builtins, node.id):
                self.assertIn(node.id, BUILT_IN, where)

    def test_methods(self):
        own = {name for tree in self.trees.values() for name in bound_names(tree)}
        for where, node in self.nodes():
            if isinstance(node, ast.Attribute):
                self.assertIn(node.attr, own | METHODS | {"__init__"}, where)

    def test_methods_and_values_of_objects_have_names_of_their_own(self):
        methods = set()
        values = set()
        for _, node in self.nodes():
            if isinstance(node, ast.ClassDef):
                names = [part.name for part in node.body if isinstance(part, ast.FunctionDef)]
                self.assertEqual(len(names), len(set(names)), node.name)
                methods.update(names)
            if isinstance(node, ast.Attribute) and isinstance(node.ctx, ast.Store):
                values.add(node.attr)
        self.assertEqual(methods & values, set())
        for name in (methods | values) - METHODS - set(UNDERSCORED):
            for kind in (str, int, list, tuple, dict, set, bytes):
                self.assertFalse(hasattr(kind, name), name)

    def test_locals_are_not_called_like_classes_and_imports(self):
        for path, tree in self.trees.items():
            classes = [node.name for node in tree.body if isinstance(node, ast.ClassDef)]
            imports = [name.name for node in tree.body if isinstance(node, ast.ImportFrom) for name in node.names]
            for top in tree.body:
                if isinstance(top, (ast.FunctionDef, ast.ClassDef)):
                    inner = [name for part in top.body for name in local_names(part)]
                    inner += local_names(top.args) if isinstance(top, ast.FunctionDef) else []
                    self.assertEqual(set(inner) & set(classes + imports), set(), path)

    def test_tops_of_files_bind_each_name_once(self):
        for path, tree in self.trees.items():
            names = []
            for node in tree.body:
                self.assertIsInstance(node, (ast.Expr, ast.ImportFrom, ast.FunctionDef, ast.ClassDef, ast.Assign), path)
                if isinstance(node, ast.ImportFrom):
                    names += [name.name for name in node.names]
                elif isinstance(node, (ast.FunctionDef, ast.ClassDef)):
                    names.append(node.name)
                elif isinstance(node, ast.Assign):
                    names.append(node.targets[0].id)
            self.assertEqual(len(names), len(set(names)), path)

    def test_names_are_drawn_from_the_files_that_define_them_and_not_in_a_round(self):
        drawn = {}
        for path, tree in self.trees.items():
            here = f"understood.{path.stem}"
            drawn[here] = set()
            for node in tree.body:
                if isinstance(node, ast.ImportFrom):
                    drawn[here].add(node.module)
                    there = self.trees[PACKAGE / (node.module.split(".")[1] + ".py")]
                    self.assertLessEqual({name.name for name in node.names}, set(bound_names(there)), here)
        while drawn:
            last = [here for here in drawn if not drawn[here] & set(drawn)]
            self.assertTrue(last, drawn)
            for here in last:
                drawn.pop(here)

    def test_is_stands_beside_none_true_and_false_alone(self):
        for where, node in self.nodes():
            if isinstance(node, ast.Compare) and any(isinstance(sign, (ast.Is, ast.IsNot)) for sign in node.ops):
                self.assertIsInstance(node.comparators[0], ast.Constant, where)
                self.assertIn(node.comparators[0].value, (None, True, False), where)

    def test_no_annotations_and_plain_parameters(self):
        for where, node in self.nodes():
            if isinstance(node, ast.FunctionDef):
                self.assertIsNone(node.returns, where)
                self.assertEqual((node.args.vararg, node.args.kwarg, node.args.kwonlyargs), (None, None, []), where)
                for parameter in node.args.args:
                    self.assertIsNone(parameter.annotation, where)

    def test_only_errors_of_its_own_are_taken(self):
        own = {node.name for _, node in self.nodes() if isinstance(node, ast.ClassDef)}
        for where, node in self.nodes():
            if isinstance(node, ast.ExceptHandler):
                self.assertIsInstance(node.type, ast.Name, where)
                self.assertIn(node.type.id, own, where)

    def test_no_set_and_nothing_walked_later(self):
        for where, node in self.nodes():
            if isinstance(node, ast.Assign) and isinstance(node.value, ast.Call):
                called = node.value.func
                name = called.attr if isinstance(called, ast.Attribute) else getattr(called, "id", "")
                self.assertNotIn(name, ("set", "frozenset", "zip", "enumerate", "reversed", "range", "items", "keys",
                                        "values"), where)


if __name__ == "__main__":
    unittest.main()
