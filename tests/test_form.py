"""The form of the package's files: LANGUAGE.md, rule by rule, as far as a walk through the code can see it.

Where the package has no use for what a rule allows under conditions (imports, sets, lambda, try, methods such as
__eq__, a call of itself), the check is the narrower one: it isn't there at all.
"""

import ast
import builtins
import pathlib
import re
import unittest

PACKAGE = pathlib.Path(__file__).resolve().parent.parent / "rankbouts"

STATEMENTS = (ast.Assign, ast.AugAssign, ast.If, ast.While, ast.For, ast.Return, ast.Break, ast.Continue, ast.Pass,
              ast.Raise, ast.Try, ast.Expr, ast.FunctionDef, ast.ClassDef, ast.ImportFrom)
EXPRESSIONS = (ast.Constant, ast.Name, ast.Attribute, ast.Subscript, ast.Slice, ast.Call, ast.List, ast.Tuple,
               ast.Dict, ast.Set, ast.BinOp, ast.UnaryOp, ast.BoolOp, ast.Compare, ast.IfExp, ast.ListComp,
               ast.JoinedStr, ast.FormattedValue, ast.Lambda)
FUNCTIONS = set("""len range enumerate zip min max sum abs sorted reversed int str bool list tuple dict set frozenset
    isinstance ord repr any all divmod""".split())
ERRORS = set("""Exception ValueError TypeError KeyError IndexError LookupError ZeroDivisionError ArithmeticError
    OverflowError RuntimeError NotImplementedError""".split())
METHODS = set("""append clear copy count endswith extend find get index insert isalnum isalpha isdigit islower
    isspace isupper items join keys ljust lower lstrip partition pop remove replace reverse rfind rjust rpartition
    rsplit rstrip setdefault split splitlines startswith strip update upper values zfill bit_length""".split())
CHANGES = set("append clear extend insert pop remove reverse setdefault update".split())
VALUES = set("count index title find get join lower upper split strip copy add".split())
TAKEN = {name for kind in (str, int, list, tuple, dict, set, bytes) for name in dir(kind)} | {"args"}
WALKS = set("zip enumerate reversed range".split())
WALKERS = set("list tuple dict sorted sum any all enumerate zip".split())
KEYWORDS = {"sorted": {"key", "reverse"}, "min": {"key", "default"}, "max": {"key", "default"}, "sum": {"start"},
            "enumerate": {"start"}, "zip": {"strict"}}
NOWHERE = set("register mro elements open input version_info with_traceback add_note format format_map".split())
NOT_NAMES = set("""attrgetter breakpoint builtins compile copyright credits delattr dir eval exec exit gc getattr
    globals hasattr help id importlib license locals methodcaller os quit setattr super sys type vars""".split())
WORDS = re.compile(r"\b(type|typing|typing_extensions|enum|Enum|IntEnum|StrEnum|Flag|IntFlag|Generic|Protocol|ABC|"
                   r"ABCMeta|namedtuple|NamedTuple|TypedDict|TYPE_CHECKING|abstractmethod)\b"
                   r"|dataclass|overload|contextmanager")
FILE_NAMES = re.compile(r"\A(?!(test|tests|testing|site|conftest|sitecustomize|usercustomize)\.)(?!test_)"
                        r"([a-z][a-z0-9_]*|__init__)\.py\Z")


class Source:
    def __init__(self, text):
        self.text = text
        self.tree = ast.parse(text)
        self.nodes = list(ast.walk(self.tree))
        self.above = {below: node for node in self.nodes for below in ast.iter_child_nodes(node)}
        self.classes = {node.name: node for node in self.each(ast.ClassDef)}
        self.methods = [part.name for node in self.classes.values() for part in node.body
                        if isinstance(part, ast.FunctionDef)]
        self.values = {node.attr for node in self.each(ast.Attribute) if isinstance(node.ctx, ast.Store)}
        self.top = [name for node in self.tree.body for name in bound_by(node)]

    def each(self, *kinds):
        return [node for node in self.nodes if isinstance(node, kinds)]

    def loads(self):
        return [node for node in self.each(ast.Name) if isinstance(node.ctx, ast.Load)]

    def is_called(self, node):
        above = self.above[node]
        return isinstance(above, ast.Call) and above.func is node

    def inner_names(self):
        """Parameters and locals."""
        stored = [node for node in self.each(ast.Name) if isinstance(node.ctx, ast.Store)]
        locals_ = [node.id for node in stored if self.above[node] not in self.tree.body]
        return locals_ + [node.arg for node in self.each(ast.arg)]


def bound_by(node):
    if isinstance(node, (ast.FunctionDef, ast.ClassDef)):
        return [node.name]
    return [part.id for part in ast.walk(node) if isinstance(part, ast.Name) and isinstance(part.ctx, ast.Store)]


def is_plain(node):
    if isinstance(node, ast.UnaryOp):
        return isinstance(node.op, ast.USub) and isinstance(node.operand, ast.Constant)
    if isinstance(node, ast.Tuple):
        return all(is_plain(part) for part in node.elts)
    return isinstance(node, ast.Constant)


def is_docstring(source, node):
    above = source.above[node]
    return isinstance(node.value, ast.Constant) and isinstance(node.value.value, str) and (
        isinstance(above, (ast.Module, ast.FunctionDef)) and above.body[0] is node)


def called_name(node):
    if isinstance(node, ast.Call):
        return getattr(node.func, "id", getattr(node.func, "attr", None))
    return None


def no_imports(source):
    return any(source.each(ast.Import, ast.ImportFrom))


def top_of_the_file(source):
    for number, node in enumerate(source.tree.body):
        if isinstance(node, ast.Assign):
            yield not is_plain(node.value)
        else:
            yield not isinstance(node, (ast.FunctionDef, ast.ClassDef)) and not (
                isinstance(node, ast.Expr) and number == 0 and is_docstring(source, node))


def functions(source):
    for node in source.each(ast.arguments):
        yield bool(node.vararg or node.kwarg or node.kwonlyargs or node.posonlyargs)
        yield not all(is_plain(default) for default in node.defaults)
    yield any(node.decorator_list for node in source.each(ast.FunctionDef))


def classes(source):
    for node in source.classes.values():
        yield len(node.bases) > 1 or bool(node.keywords or node.decorator_list)
        yield any(getattr(base, "id", None) not in ERRORS | set(source.classes) for base in node.bases)
        yield not all(isinstance(part, (ast.FunctionDef, ast.Pass)) for part in node.body)
    yield any(name.startswith("__") and name != "__init__" for name in source.methods)


def statements(source):
    yield not all(isinstance(node, STATEMENTS) for node in source.each(ast.stmt))
    yield any(node.orelse for node in source.each(ast.For, ast.While))
    yield any(len(node.targets) > 1 for node in source.each(ast.Assign))
    yield any(node.finalbody for node in source.each(ast.Try))
    yield not all(isinstance(node.value, ast.Call) or is_docstring(source, node) for node in source.each(ast.Expr))


def expressions(source):
    yield not all(isinstance(node, EXPRESSIONS) for node in source.each(ast.expr))
    yield any(source.each(ast.Div, ast.MatMult))
    yield not all(isinstance(node.value, (int, str, type(None))) for node in source.each(ast.Constant))
    yield any(len(node.generators) > 1 or len(node.generators[0].ifs) > 1 for node in source.each(ast.ListComp))
    for node in source.each(ast.FormattedValue):
        yield not isinstance(node.value, ast.Name) or node.conversion not in (-1, ord("r")) or bool(node.format_spec)
    yield any(node.arg is None for node in source.each(ast.keyword))


def pythons_own_names(source):
    own = set(source.top) | set(source.inner_names())
    for node in source.loads():
        yield node.id in dir(builtins) and node.id not in FUNCTIONS | ERRORS
        yield node.id not in FUNCTIONS | ERRORS | own
    yield any(name in dir(builtins) for name in source.top)
    yield any(node.attr in ("format", "format_map", "mro") for node in source.each(ast.Attribute))


def no_input_and_output(source):
    return any(node.id in ("print", "open", "input", "sys") for node in source.each(ast.Name))


def sizes(source):
    yield len(source.text.splitlines()) > 400 or "\t" in source.text
    yield any(len(row) > 120 for row in source.text.splitlines())
    yield any(node.end_lineno - node.lineno >= 40 for node in source.each(ast.FunctionDef))


def no_call_of_itself(source):
    calls = {}
    for node in source.each(ast.FunctionDef):
        calls.setdefault(node.name, set()).update(called_name(part) for part in ast.walk(node))
    for name in calls:
        reached, ahead = set(), [name]
        while ahead:
            more = calls.get(ahead.pop(), set()) - reached
            reached |= more
            ahead += more
        yield name in reached


def plain_names(source):
    names = source.top + source.inner_names() + [node.attr for node in source.each(ast.Attribute)] + source.methods
    return any(not re.fullmatch(r"[A-Za-z][A-Za-z0-9_]*|__init__", name) for name in names)


def no_lambda_and_no_set(source):
    return any(source.each(ast.Lambda, ast.Set))


def signs(source):
    return not re.fullmatch(r"[ -~\n]*", source.text)


def each_name_once(source):
    yield len(source.top) != len(set(source.top))
    yield any(node not in source.tree.body for node in source.classes.values())
    for node in source.tree.body:
        yield isinstance(node, ast.Assign) and isinstance(node.value, (ast.List, ast.Dict, ast.ListComp))
    yield any(name in source.classes or name in dir(builtins) for name in source.inner_names())


def unused_names(source):
    names = [node.id for node in source.each(ast.Name)] + source.top + source.inner_names()
    attributes = [node.attr for node in source.each(ast.Attribute)] + source.methods
    yield any(name in NOT_NAMES for name in names)
    yield any(name in NOWHERE or re.match(r"(f|tb|co|gi|cr|ag)_", name) for name in names + attributes)
    yield bool(WORDS.search(source.text))


def classes_as_used(source):
    for node in source.loads():
        if node.id in source.classes:
            above = source.above[node]
            yield not source.is_called(node) and not isinstance(above, ast.ClassDef) and not (
                called_name(above) == "isinstance")
    for node in source.each(ast.Attribute):
        if isinstance(node.ctx, ast.Store):
            yield not isinstance(node.value, ast.Name) or node.value.id in source.top
    for node in source.classes.values():
        names = [part.name for part in node.body if isinstance(part, ast.FunctionDef)]
        yield len(names) != len(set(names))
    yield bool(source.values & set(source.methods))


def errors(source):
    yield any(source.each(ast.Try))
    for node in source.each(ast.Raise):
        error = source.classes.get(called_name(node.exc))
        yield error is None or not error.bases or node.cause is not None


def beside_is(source):
    for node in source.each(ast.Compare):
        if any(isinstance(sign, (ast.Is, ast.IsNot)) for sign in node.ops):
            beside = getattr(node.comparators[0], "value", 0)
            yield beside is not None and beside is not True and beside is not False


def no_annotations(source):
    yield any(node.annotation for node in source.each(ast.arg))
    yield any(node.returns for node in source.each(ast.FunctionDef)) or any(source.each(ast.AnnAssign))


def as_they_are_called(source):
    for node in source.loads():
        if node.id in FUNCTIONS:
            above = source.above[node]
            yield not source.is_called(node) and called_name(above) != "isinstance" and not (
                isinstance(above, ast.keyword) and above.arg == "key")
    for node in source.each(ast.Call):
        own = called_name(node) in source.top
        yield any(word.arg not in KEYWORDS.get(called_name(node), set()) for word in node.keywords) and not own


def walked_at_once(source):
    for node in source.each(ast.Call):
        if called_name(node) in WALKS | {"items", "keys", "values"}:
            above = source.above[node]
            yield not (isinstance(above, (ast.For, ast.comprehension)) and above.iter is node) and not (
                called_name(above) in WALKERS | {"min", "max", "join"} and above.args[0] is node)
    for node in source.each(ast.For):
        walked = {part.id for part in ast.walk(node.iter) if isinstance(part, ast.Name)}
        for part in [part for row in node.body for part in ast.walk(row)]:
            if isinstance(part, ast.Subscript) and isinstance(part.ctx, ast.Store):
                yield getattr(part.value, "id", None) in walked
            if isinstance(part, ast.Call) and isinstance(part.func, ast.Attribute) and part.func.attr in CHANGES:
                yield getattr(part.func.value, "id", None) in walked


def no_sets(source):
    return any(node.id in ("set", "frozenset") for node in source.each(ast.Name)) or any(source.each(ast.Set))


def methods_as_called(source):
    for node in source.each(ast.Attribute):
        if source.is_called(node):
            yield node.attr not in METHODS and node.attr not in source.methods
        else:
            yield node.attr not in source.values


def own_methods_and_values(source):
    yield any(name in TAKEN - METHODS - {"add", "discard", "__init__"} for name in source.methods)
    yield any(name in TAKEN - VALUES for name in source.values)


def numbers_and_texts(source):
    for node in source.each(ast.BinOp, ast.AugAssign):
        if isinstance(node.op, ast.Pow):
            power = getattr(getattr(node, "right", None), "value", None)
            yield not isinstance(power, int) or not 0 <= power <= 64
    for node in source.each(ast.Constant):
        yield isinstance(node.value, str) and "%" in node.value
        yield isinstance(node.value, int) and abs(node.value) >= 10 ** 900
    yield any(node.id == "chr" for node in source.each(ast.Name)) or bool(re.search(r"\\[^nt\\'\"]", source.text))


def first_method(source):
    for node in source.each(ast.FunctionDef):
        if node.name == "__init__":
            yield any(isinstance(part, ast.Return) and part.value is not None for part in ast.walk(node))


# L1, and the names of L14, are looked for in the folder, not in a file.
RULES = {
    "L2": no_imports, "L3": top_of_the_file, "L4": functions, "L5": classes, "L6": statements, "L7": expressions,
    "L8": pythons_own_names, "L9": no_input_and_output, "L10": sizes, "L11": no_call_of_itself, "L12": plain_names,
    "L13": no_lambda_and_no_set, "L14": signs, "L15": each_name_once, "L16": no_imports, "L17": unused_names,
    "L18": classes_as_used, "L19": errors, "L20": beside_is, "L21": no_annotations, "L22": as_they_are_called,
    "L23": walked_at_once, "L24": no_sets, "L25": methods_as_called, "L26": own_methods_and_values,
    "L27": numbers_and_texts, "L28": first_method}


def broken_rules(text):
    source = Source(text)
    broken = []
    for rule, faults in RULES.items():
        found = faults(source)
        if found is True or not isinstance(found, bool) and any(found):
            broken.append(rule)
    return broken


# Texts that break a rule, so that a check that sees nothing is seen itself.
WRONG = {
    "L2": ["import random", "from rankbouts.days import day", "def f():\n    from rankbouts.days import day"],
    "L3": ["XS = len('a')", "if True:\n    X = 1", "X = 1\n'text'"],
    "L4": ["def f(*xs): pass", "def f(**xs): pass", "def f(*, x): pass", "@f\ndef f(): pass", "def f(x=[]): pass"],
    "L5": ["class A:\n    x = 1", "class A(list): pass", "class A:\n    def __add__(self): pass",
           "class A:\n    'text'", "@f\nclass A: pass"],
    "L6": ["def f(): assert True", "def f():\n    for x in []: pass\n    else: pass", "def f(): x = y = 1",
           "def f(x): del x", "def f(): yield 1", "def f(x): x", "def f():\n    with x: pass"],
    "L7": ["X = 1.5", "X = 1 / 2", "X = b'a'", "def f(x): return [y for z in x for y in z]",
           "def f(x): return {y for y in x}", "def f(x): return f'{x + 1}'", "def f(x): return f'{x:3}'",
           "def f(x): return [*x]", "def f(x): return f(**x)", "def f(x): return all(y for y in x)"],
    "L8": ["def f(x): return pow(x, x)", "def f(x): return hash(x)", "def len(): pass", "def f(x): return x.format()",
           "def f(): return unheard_of"],
    "L9": ["def f(x): print(x)", "def f(x): return open(x)"],
    "L10": ["X = 1\n" * 401, f"X = {'1' * 120}", "def f(x):\n" + "    x = 1\n" * 40, "def f():\n\tpass"],
    "L11": ["def f(x): return f(x)", "def f(x): return g(x)\ndef g(x): return f(x)"],
    "L12": ["_x = 1", "def f(_): pass", "def f(x): return x._y", "def f():\n    x_\u00e9 = 1"],
    "L13": ["def f(x): return sorted(x, key=lambda y: -y)", "def f(x): return x in {1, 2, 3}"],
    "L14": ["X = '\u00e9'", "X = 1  # \u2013", "X = 1\r\n"],
    "L15": ["X = 1\nX = 2", "def f():\n    class A: pass", "XS = [1]", "XS = {}", "def f(hash): pass",
            "class A: pass\ndef f():\n    A = 1", "def f(min): pass"],
    "L16": ["import rankbouts.days"],
    "L17": ["def f(x): return x.register", "def f(x): return x.f_back", "def f(os): pass", "X = 1  # the type of it"],
    "L18": ["class A: pass\ndef f(): return [A]", "class A: pass\ndef f(): A.x = 1", "X = 1\ndef f(): X.y = 1",
            "class A:\n    def f(self): pass\n    def f(self): pass",
            "class A:\n    def f(self): pass\nclass B:\n    def g(self): self.f = 1"],
    "L19": ["def f():\n    try:\n        pass\n    except KeyError:\n        pass", "def f(e): raise e",
            "class A: pass\ndef f(): raise A()", "def f(): raise"],
    "L20": ["def f(x): return x is f", "def f(x): return x is 1", "def f(x): return x is not []"],
    "L21": ["def f(x: int): pass", "def f() -> int: pass", "X: int = 1"],
    "L22": ["def f(): return len", "def f(x): return int(x, base=3)", "def f(x): return x.split(sep=x)",
            "def f(x): return [len]"],
    "L23": ["def f(x):\n    y = range(x)", "def f(x): return x.items()", "def f(x):\n    for y in x:\n        x[y] = 1",
            "def f(x):\n    for y, z in enumerate(x):\n        x.append(y)", "def f(x): return max(x, range(x))"],
    "L24": ["def f(x): return set(x)", "def f(x): return {x}", "def f(x): return frozenset(x)"],
    "L25": ["def f(x): x.sort()", "def f(x): return x.append", "def f(x): return x.title()"],
    "L26": ["class A:\n    def sort(self): pass", "class A:\n    def __init__(self): self.items = 1",
            "class A:\n    def __init__(self): self.real = 1"],
    "L27": ["def f(n): return 2 ** n", "X = 2 ** 65", "X = 'a % b'", "def f(n): return chr(n)", "X = '\\x41'",
            "X = " + "1" * 901],
    "L28": ["class A:\n    def __init__(self): return None"],
}


class Form(unittest.TestCase):
    def test_the_folder(self):
        names = [path.name for path in PACKAGE.iterdir() if path.name != "__pycache__"]
        self.assertIn("__init__.py", names)
        self.assertIn("tournament.py", names)
        for name in names:
            self.assertRegex(name, FILE_NAMES)
            self.assertNotIn(name[:-3], set(dir(builtins)) | NOT_NAMES)
            self.assertIsNone(WORDS.fullmatch(name[:-3]))

    def test_each_file(self):
        for file in PACKAGE.glob("*.py"):
            self.assertEqual(broken_rules(file.read_bytes().decode("utf-8")), [], file.name)

    def test_the_package_as_one(self):
        sources = [Source(file.read_text()) for file in PACKAGE.glob("*.py")]
        methods = {name for source in sources for name in source.methods}
        values = {name for source in sources for name in source.values}
        self.assertEqual(methods & values, set())

    def test_each_rule_is_looked_for(self):
        self.assertEqual([*RULES], [f"L{number}" for number in range(2, 29)])
        self.assertEqual([*WRONG], [*RULES])
        for rule, texts in WRONG.items():
            for text in texts:
                self.assertIn(rule, broken_rules(text), text[:200])

    def test_file_names(self):
        for name in ("Days.py", "test_days.py", "tests.py", "_days.py", "days.txt", "__main__.txt", "d ay.py"):
            self.assertNotRegex(name, FILE_NAMES)


if __name__ == "__main__":
    unittest.main()
