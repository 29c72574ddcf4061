"""The form of the package's files: those rules of LANGUAGE.md that a walk through the code can see."""

import ast
import builtins
import pathlib
import re
import unittest

PACKAGE = pathlib.Path(__file__).resolve().parent.parent / "rankbouts"

STATEMENTS = (ast.Assign, ast.AugAssign, ast.If, ast.While, ast.For, ast.Return, ast.Break, ast.Continue, ast.Pass,
              ast.Raise, ast.Try, ast.Expr, ast.FunctionDef, ast.ClassDef, ast.ImportFrom)
EXPRESSIONS = (ast.Constant, ast.Name, ast.Attribute, ast.Subscript, ast.Slice, ast.Call, ast.List, ast.Tuple,
               ast.Dict, ast.Set, ast.BinOp, ast.UnaryOp, ast.BoolOp, ast.Compare, ast.IfExp, ast.ListComp,
               ast.JoinedStr, ast.FormattedValue, ast.Lambda)
TOP = (ast.Assign, ast.FunctionDef, ast.ClassDef, ast.ImportFrom, ast.Expr)
OWN_NAMES = set("""len range enumerate zip min max sum abs sorted reversed int str bool list tuple dict set frozenset
    isinstance ord repr any all divmod Exception ValueError TypeError KeyError IndexError LookupError
    ZeroDivisionError ArithmeticError OverflowError RuntimeError NotImplementedError AttributeError
    StopIteration""".split())
OWN_METHODS = set("""append clear copy count endswith extend find get index insert isalnum isalpha isdigit islower
    isspace isupper items join keys ljust lower lstrip partition pop remove replace reverse rfind rjust rpartition
    rsplit rstrip setdefault split splitlines startswith strip update upper values zfill bit_length""".split())
UNDERSCORED = ("__init__", "__eq__", "__repr__", "__str__", "__len__")
UNUSED = set("""register mro elements open input version_info with_traceback add_note format format_map attrgetter
    breakpoint builtins compile copyright credits delattr dir eval exec exit gc getattr globals hasattr help id
    importlib license locals methodcaller os quit setattr super sys type vars""".split())
UNSAID = re.compile(r"\b(type|typing|typing_extensions|enum|Enum|IntEnum|StrEnum|Flag|IntFlag|Generic|Protocol|ABC|"
                    r"ABCMeta|namedtuple|NamedTuple|TypedDict|TYPE_CHECKING|abstractmethod)\b"
                    r"|dataclass|overload|contextmanager")


def bound_names(tree):
    for node in ast.walk(tree):
        if isinstance(node, (ast.FunctionDef, ast.ClassDef)):
            yield node.name
        elif isinstance(node, ast.arg):
            yield node.arg
        elif isinstance(node, ast.Name) and isinstance(node.ctx, ast.Store):
            yield node.id
        elif isinstance(node, ast.Attribute) and isinstance(node.ctx, ast.Store):
            yield node.attr


def methods_of(trees):
    classes = [node for tree in trees for node in tree.body if isinstance(node, ast.ClassDef)]
    return [part.name for node in classes for part in node.body if isinstance(part, ast.FunctionDef)]


class Form(unittest.TestCase):
    def setUp(self):
        self.files = sorted(PACKAGE.glob("*.py"))
        self.texts = {file: file.read_bytes().decode("ascii") for file in self.files}
        self.trees = {file: ast.parse(text) for file, text in self.texts.items()}

    def each_node(self, *kinds):
        for file, tree in self.trees.items():
            for node in ast.walk(tree):
                if isinstance(node, kinds):
                    where = f"{file.name}:{getattr(node, 'lineno', '?')}: {ast.dump(node)[:80]}"
                    yield node, where

    def test_files(self):
        self.assertIn(PACKAGE / "__init__.py", self.files)
        for path in PACKAGE.iterdir():
            if path.name != "__pycache__":
                self.assertRegex(path.name, r"\A([a-z][a-z0-9_]*|__init__)\.py\Z")

    def test_signs_and_sizes(self):
        for file, text in self.texts.items():
            self.assertRegex(text, r"\A[ -~\n]*\Z", file.name)
            self.assertLessEqual(len(text.splitlines()), 400, file.name)
            self.assertLessEqual(max(len(row) for row in text.splitlines()), 120, file.name)
            self.assertIsNone(UNSAID.search(text), file.name)
        for node, where in self.each_node(ast.FunctionDef):
            self.assertLessEqual(node.end_lineno - node.lineno + 1, 40, where)

    def test_statements_and_expressions(self):
        for node, where in self.each_node(ast.stmt):
            self.assertIsInstance(node, STATEMENTS, where)
            self.assertFalse(isinstance(node, (ast.For, ast.While)) and node.orelse, where)
            self.assertFalse(isinstance(node, ast.Assign) and len(node.targets) > 1, where)
            self.assertFalse(isinstance(node, ast.Try) and node.finalbody, where)
        for node, where in self.each_node(ast.expr):
            self.assertIsInstance(node, EXPRESSIONS, where)
        for node, where in self.each_node(ast.Constant):
            self.assertIsInstance(node.value, (int, str, bool, type(None)), where)
        self.assertEqual([where for _, where in self.each_node(ast.Div, ast.MatMult)], [])

    def test_top_of_each_file(self):
        for file, tree in self.trees.items():
            for number, node in enumerate(tree.body):
                self.assertIsInstance(node, TOP, file.name)
                self.assertFalse(isinstance(node, ast.Expr) and number > 0, file.name)

    def test_imports(self):
        for node, where in self.each_node(ast.ImportFrom):
            self.assertEqual(node.level, 0, where)
            self.assertRegex(node.module, r"\Arankbouts\.\w+\Z", where)
            self.assertNotIn("*", [alias.name for alias in node.names], where)

    def test_functions_and_classes(self):
        for node, where in self.each_node(ast.FunctionDef, ast.ClassDef):
            self.assertEqual(node.decorator_list, [], where)
        for node, where in self.each_node(ast.arguments):
            self.assertFalse(node.vararg or node.kwarg or node.kwonlyargs or node.posonlyargs, where)
        for node, where in self.each_node(ast.ClassDef):
            self.assertLessEqual(len(node.bases), 1, where)
            for part in node.body:
                self.assertIsInstance(part, (ast.FunctionDef, ast.Pass), where)

    def test_names(self):
        taken = set(dir(builtins))
        own_methods = methods_of(self.trees.values())
        for tree in self.trees.values():
            for name in bound_names(tree):
                self.assertTrue(name in UNDERSCORED or re.fullmatch(r"[A-Za-z][A-Za-z0-9_]*", name), name)
                self.assertNotIn(name, UNUSED)
                self.assertTrue(name not in taken or name in own_methods, name)
        for node, where in self.each_node(ast.Name):
            self.assertTrue(node.id not in taken or node.id in OWN_NAMES, where)
            self.assertNotIn(node.id, UNUSED, where)

    def test_methods(self):
        allowed = OWN_METHODS | set(methods_of(self.trees.values()))
        for node, where in self.each_node(ast.Call):
            if isinstance(node.func, ast.Attribute):
                self.assertIn(node.func.attr, allowed, where)

    def test_no_name_is_a_method_and_a_value(self):
        values = {node.attr for node, _ in self.each_node(ast.Attribute) if isinstance(node.ctx, ast.Store)}
        self.assertEqual(values & set(methods_of(self.trees.values())), set())

    def test_is_stands_beside_none_true_false(self):
        for node, where in self.each_node(ast.Compare):
            if any(isinstance(sign, (ast.Is, ast.IsNot)) for sign in node.ops):
                self.assertIsInstance(node.comparators[0], ast.Constant, where)
                self.assertIn(node.comparators[0].value, (None, True, False), where)


if __name__ == "__main__":
    unittest.main()
