"""That the package keeps to its small part of Python, as far as its files show it."""

import ast
import builtins
import pathlib
import re
import unittest

import rankroom

PACKAGE = pathlib.Path(rankroom.__file__).parent

STATEMENTS = (
    ast.FunctionDef, ast.ClassDef, ast.Return, ast.Assign, ast.AugAssign, ast.For, ast.While, ast.If, ast.Raise,
    ast.Try, ast.ImportFrom, ast.Expr, ast.Pass, ast.Break, ast.Continue,
)
EXPRESSIONS = (
    ast.BoolOp, ast.BinOp, ast.UnaryOp, ast.Lambda, ast.IfExp, ast.Dict, ast.ListComp, ast.Compare, ast.Call,
    ast.JoinedStr, ast.FormattedValue, ast.Constant, ast.Attribute, ast.Subscript, ast.Name, ast.List, ast.Tuple,
    ast.Slice,
)
OWN_NAMES = set((
    "len range enumerate zip min max sum abs sorted reversed int str bool list tuple dict set frozenset isinstance "
    "ord repr any all divmod Exception ValueError TypeError KeyError IndexError LookupError ZeroDivisionError "
    "ArithmeticError OverflowError RuntimeError NotImplementedError AttributeError StopIteration").split())
METHODS = set((
    "append clear copy count endswith extend find get index insert isalnum isalpha isdigit islower isspace isupper "
    "items join keys ljust lower lstrip partition pop remove replace reverse rfind rjust rpartition rsplit rstrip "
    "setdefault split splitlines startswith strip update upper values zfill bit_length").split())
WORDS = (
    "type typing typing_extensions enum Enum IntEnum StrEnum Flag IntFlag Generic Protocol ABC ABCMeta namedtuple "
    "NamedTuple TypedDict TYPE_CHECKING abstractmethod").split()
WALKED = ("zip", "enumerate", "reversed", "range")
WALKED_METHODS = ("items", "keys", "values")
WALKERS = ("list", "tuple", "dict", "sorted", "sum", "any", "all", "enumerate", "zip", "min", "max")
CHANGING = ("append", "clear", "extend", "insert", "pop", "remove", "reverse", "setdefault", "update")
BUILT_IN = set(dir(builtins))


def bound_names(node):
    """The names that a def gives to its parameters and locals, those within it too."""
    names = [arg.arg for arg in ast.walk(node) if isinstance(arg, ast.arg)]
    names += [name.id for name in ast.walk(node) if isinstance(name, ast.Name) and isinstance(name.ctx, ast.Store)]
    return names


class Form(unittest.TestCase):
    def setUp(self):
        self.texts = {path.name: path.read_text() for path in sorted(PACKAGE.glob("*.py"))}
        self.trees = {name: ast.parse(text) for name, text in self.texts.items()}

    def nodes(self, *kinds):
        for name, tree in self.trees.items():
            for node in ast.walk(tree):
                if isinstance(node, kinds):
                    yield f"{name}:{getattr(node, 'lineno', 0)}", node

    def test_files(self):
        for path in PACKAGE.iterdir():
            if path.name != "__pycache__":
                self.assertRegex(path.name, r"\A[a-z0-9_]+\.py\Z")
        self.assertIn("__init__.py", self.texts)

    def test_size_and_signs(self):
        for name, text in self.texts.items():
            self.assertLessEqual(len(text.splitlines()), 400, name)
            self.assertTrue(all(" " <= sign <= "~" or sign == "\n" for sign in text), name)
            self.assertTrue(all(len(line) <= 120 for line in text.splitlines()), name)
        for where, node in self.nodes(ast.FunctionDef):
            self.assertLessEqual(node.end_lineno - node.lineno + 1, 40, where)

    def test_words(self):
        for name, text in self.texts.items():
            for word in WORDS:
                self.assertIsNone(re.search(rf"\b{word}\b", text), (name, word))
            self.assertIsNone(re.search("dataclass|overload|contextmanager", text), name)

    def test_statements_and_expressions(self):
        for where, node in self.nodes(ast.stmt):
            self.assertIsInstance(node, STATEMENTS, where)
        for where, node in self.nodes(ast.expr):
            self.assertIsInstance(node, EXPRESSIONS, where)
        for where, node in self.nodes(ast.Assign):
            self.assertEqual(len(node.targets), 1, where)
            self.assertNotIsInstance(node.targets[0], (ast.Tuple, ast.List), where)
        for where, node in self.nodes(ast.For, ast.While):
            self.assertEqual(node.orelse, [], where)
        for where, node in self.nodes(ast.ListComp):
            self.assertEqual(len(node.generators), 1, where)
            self.assertLessEqual(len(node.generators[0].ifs), 1, where)
        for where, node in self.nodes(ast.BinOp):
            self.assertNotIsInstance(node.op, (ast.Div, ast.MatMult), where)
            if isinstance(node.op, ast.Pow):
                self.assertIsInstance(node.right, ast.Constant, where)
        for where, node in self.nodes(ast.Constant):
            self.assertNotIsInstance(node.value, (float, complex, bytes), where)
        for where, node in self.nodes(ast.Compare):
            if any(isinstance(op, (ast.Is, ast.IsNot)) for op in node.ops):
                self.assertIn(getattr(node.comparators[0], "value", 0), (None, True, False), where)

    def test_functions_and_classes(self):
        for where, node in self.nodes(ast.FunctionDef, ast.ClassDef):
            self.assertEqual(node.decorator_list, [], where)
        for where, node in self.nodes(ast.arguments):
            self.assertFalse(node.vararg or node.kwarg or node.kwonlyargs or node.posonlyargs, where)
        for name, tree in self.trees.items():
            at_top = [node.name for node in tree.body if isinstance(node, (ast.FunctionDef, ast.ClassDef))]
            at_top += [target.id for node in tree.body if isinstance(node, ast.Assign) for target in node.targets]
            at_top += [alias.name for node in tree.body if isinstance(node, ast.ImportFrom) for alias in node.names]
            self.assertEqual(len(at_top), len(set(at_top)), name)
            for node in tree.body:
                if isinstance(node, (ast.FunctionDef, ast.ClassDef)):
                    for bound in bound_names(node):
                        self.assertNotIn(bound, at_top, (name, node.name))
                        self.assertNotIn(bound, BUILT_IN, (name, node.name))
                        self.assertFalse(bound.startswith("_"), (name, node.name))

    def test_imports(self):
        for where, node in self.nodes(ast.ImportFrom):
            self.assertEqual(node.level, 0, where)
            source = self.trees[node.module.split("rankroom.")[1] + ".py"]
            defined = [at.name for at in source.body if isinstance(at, (ast.FunctionDef, ast.ClassDef))]
            defined += [at.targets[0].id for at in source.body if isinstance(at, ast.Assign)]
            for alias in node.names:
                self.assertIn(alias.name, defined, where)

    def test_names_of_pythons_own(self):
        for where, node in self.nodes(ast.Name):
            if node.id in BUILT_IN:
                self.assertIn(node.id, OWN_NAMES, where)

    def test_methods(self):
        own = {node.name for where, node in self.nodes(ast.FunctionDef)} - {"__init__"}
        for where, node in self.nodes(ast.Call):
            if isinstance(node.func, ast.Attribute):
                self.assertIn(node.func.attr, METHODS | own, where)

    def test_no_method_is_a_value_elsewhere(self):
        methods = set()
        for where, node in self.nodes(ast.ClassDef):
            methods |= {inner.name for inner in node.body if isinstance(inner, ast.FunctionDef)}
        for where, node in self.nodes(ast.Attribute):
            if isinstance(node.ctx, ast.Store):
                self.assertNotIn(node.attr, methods, where)

    def test_walked_at_once(self):
        for name, tree in self.trees.items():
            on_the_spot = []
            for node in ast.walk(tree):
                if isinstance(node, (ast.For, ast.comprehension)):
                    on_the_spot.append(node.iter)
                if isinstance(node, ast.Call) and getattr(node.func, "id", "") in WALKERS and node.args:
                    on_the_spot.append(node.args[0])
            for node in ast.walk(tree):
                if isinstance(node, ast.Call):
                    if getattr(node.func, "id", "") in WALKED or getattr(node.func, "attr", "") in WALKED_METHODS:
                        self.assertIn(node, on_the_spot, (name, node.lineno))

    def test_what_a_loop_walks_is_not_changed(self):
        for where, node in self.nodes(ast.For):
            walked = {inner.id for inner in ast.walk(node.iter) if isinstance(inner, ast.Name)}
            for inner in ast.walk(ast.Module(node.body, [])):
                if isinstance(inner, ast.Call) and getattr(inner.func, "attr", "") in CHANGING:
                    self.assertNotIn(getattr(inner.func.value, "id", ""), walked, where)

    def test_no_two_files_draw_from_one_another(self):
        drawn = {}
        for name, tree in self.trees.items():
            modules = [node.module for node in tree.body if isinstance(node, ast.ImportFrom)]
            drawn[name] = {module.split("rankroom.")[1] + ".py" for module in modules}
        while drawn:
            free = [name for name, others in drawn.items() if not others & set(drawn)]
            self.assertTrue(free, drawn)
            for name in free:
                drawn.pop(name)

    def test_tables_at_the_top_are_only_read(self):
        for name, tree in self.trees.items():
            tables = {node.targets[0].id for node in tree.body if isinstance(node, ast.Assign)
                      and isinstance(node.value, (ast.Dict, ast.List))}
            for node in ast.walk(tree):
                if isinstance(node, ast.Subscript) and not isinstance(node.ctx, ast.Load):
                    self.assertNotIn(getattr(node.value, "id", ""), tables, (name, node.lineno))
                if isinstance(node, ast.Call) and getattr(node.func, "attr", "") in CHANGING:
                    self.assertNotIn(getattr(node.func.value, "id", ""), tables, (name, node.lineno))

    def test_texts(self):
        for where, node in self.nodes(ast.Constant):
            if isinstance(node.value, str):
                self.assertNotIn("%", node.value, where)


if __name__ == "__main__":
    unittest.main()
