"""The package keeps to the small part of Python that it is written in: what can be told from its text."""

import ast
import builtins
import pathlib
import re
import unittest

PACKAGE = pathlib.Path(__file__).resolve().parent.parent / "walktree"

OWN_NAMES = set(
    "len range enumerate zip min max sum abs sorted reversed int str bool list tuple dict set frozenset isinstance ord "
    "repr any all divmod Exception ValueError TypeError KeyError IndexError LookupError ZeroDivisionError "
    "ArithmeticError OverflowError RuntimeError NotImplementedError AttributeError StopIteration".split()
)
METHODS = set(
    "append clear copy count endswith extend find get index insert isalnum isalpha isdigit islower isspace isupper "
    "items join keys ljust lower lstrip partition pop remove replace reverse rfind rjust rpartition rsplit rstrip "
    "setdefault split splitlines startswith strip update upper values zfill bit_length".split()
)
TWO_UNDERSCORES = {"__init__", "__eq__", "__repr__", "__str__", "__len__"}
NOT_ANYWHERE = re.compile(
    r"\b(type|typing|typing_extensions|enum|Enum|IntEnum|StrEnum|Flag|IntFlag|Generic|Protocol|ABC|ABCMeta|namedtuple|"
    r"NamedTuple|TypedDict|TYPE_CHECKING|abstractmethod)\b|dataclass|overload|contextmanager"
)
WALKED_AT_ONCE = {"zip", "enumerate", "reversed", "range", "items", "keys", "values"}
WALKING = {"list", "tuple", "dict", "sorted", "sum", "any", "all", "enumerate", "zip", "min", "max", "join"}
NOT_AS_NAMES = {"register", "mro", "elements", "open", "input", "version_info", "with_traceback", "add_note"}
PARTS = (
    ast.Module, ast.ImportFrom, ast.alias, ast.FunctionDef, ast.Lambda, ast.arguments, ast.arg, ast.ClassDef,
    ast.Assign, ast.AugAssign, ast.If, ast.While, ast.For, ast.Return, ast.Break, ast.Continue, ast.Pass, ast.Raise,
    ast.Try, ast.ExceptHandler, ast.Expr, ast.Constant, ast.Name, ast.List, ast.Tuple, ast.Dict, ast.Set, ast.BinOp,
    ast.UnaryOp, ast.BoolOp, ast.Compare, ast.IfExp, ast.Call, ast.keyword, ast.Attribute, ast.Subscript, ast.Slice,
    ast.ListComp, ast.comprehension, ast.JoinedStr, ast.FormattedValue, ast.operator, ast.unaryop, ast.boolop,
    ast.cmpop, ast.expr_context,
)


def length(node):
    return node.end_lineno - node.lineno + 1


def names_of(node):
    """The names that this part of the text binds or reads itself."""
    if isinstance(node, ast.Name):
        return [node.id]
    if isinstance(node, (ast.FunctionDef, ast.ClassDef)):
        return [node.name]
    if isinstance(node, ast.arg):
        return [node.arg]
    if isinstance(node, ast.Attribute):
        return [node.attr]
    return []


def called(node):
    """What a call calls by its last name."""
    if not isinstance(node, ast.Call):
        return None
    return node.func.id if isinstance(node.func, ast.Name) else getattr(node.func, "attr", None)


def faults_of_walks(module):
    walked = []
    for node in ast.walk(module):
        if isinstance(node, (ast.For, ast.comprehension)):
            walked.append(node.iter)
        if called(node) in WALKING:
            walked += node.args[:1]
    return [
        ("L23", ast.unparse(node)) for node in ast.walk(module) if called(node) in WALKED_AT_ONCE and node not in walked
    ]


def faults_of_values(module, methods):
    """No name is a method in one class and a value in another."""
    return [
        ("L18", node.attr) for node in ast.walk(module)
        if isinstance(node, ast.Attribute) and isinstance(node.ctx, ast.Store) and node.attr in methods
    ]


def faults_of_text(text):
    lines = text.split("\n")
    found = [("L10", "a file of over 400 lines")] if len(lines) > 401 else []
    found += [("L10", row) for row in lines if len(row) > 120]
    found += [("L14", repr(sign)) for sign in text if sign != "\n" and not " " <= sign <= "~"]
    return found + [("L17", word.group()) for word in NOT_ANYWHERE.finditer(text)]


def faults_of_name(name):
    if name in TWO_UNDERSCORES:
        return []
    found = [] if re.fullmatch("[A-Za-z][A-Za-z0-9_]*", name) else [("L12", name)]
    return found + ([("L17", name)] if name in NOT_AS_NAMES else [])


def faults_of_function(node):
    found = [("L10", node.name)] if length(node) > 40 else []
    if node.args.vararg or node.args.kwarg or node.args.kwonlyargs or node.args.posonlyargs or node.decorator_list:
        found.append(("L4", node.name))
    if node.returns or [each for each in node.args.args if each.annotation]:
        found.append(("L21", node.name))
    bound = {each.arg for each in node.args.args}
    bound |= {each.id for each in ast.walk(node) if isinstance(each, ast.Name) and isinstance(each.ctx, ast.Store)}
    return found + [("L15", name) for name in sorted(bound) if name in dir(builtins)]


def faults_of_class(node):
    found = [("L5", node.name)] if len(node.bases) > 1 or node.keywords or node.decorator_list else []
    methods = [part.name for part in node.body if isinstance(part, ast.FunctionDef)]
    found += [("L18", node.name)] if len(methods) != len(set(methods)) else []
    return found + [("L5", node.name) for part in node.body if not isinstance(part, ast.FunctionDef)]


def faults_of_part(node, methods):
    if not isinstance(node, PARTS):
        return [("L6 or L7", type(node).__name__)]
    if isinstance(node, ast.FunctionDef):
        return faults_of_function(node)
    if isinstance(node, ast.ClassDef):
        return faults_of_class(node)
    if isinstance(node, ast.ImportFrom) and (node.level or not (node.module or "").startswith("walktree.")):
        return [("L2", ast.unparse(node))]
    if isinstance(node, ast.Constant) and isinstance(node.value, (float, complex, bytes)):
        return [("L7", repr(node.value))]
    if isinstance(node, (ast.Div, ast.MatMult)):
        return [("L7", type(node).__name__)]
    if isinstance(node, ast.Name) and node.id in dir(builtins) and node.id not in OWN_NAMES:
        return [("L8", node.id)]
    if isinstance(node, (ast.While, ast.For)) and node.orelse or isinstance(node, ast.Try) and node.finalbody:
        return [("L6", "else behind a loop, or finally")]
    if isinstance(node, ast.Compare) and [
        each for sign, each in zip(node.ops, node.comparators)
        if isinstance(sign, (ast.Is, ast.IsNot)) and ast.unparse(each) not in ("None", "True", "False")
    ]:
        return [("L20", ast.unparse(node))]
    if isinstance(node, ast.Assign) and len(node.targets) > 1:
        return [("L6", ast.unparse(node))]
    if isinstance(node, ast.Call) and isinstance(node.func, ast.Attribute) and node.func.attr not in METHODS | methods:
        return [("L25", node.func.attr)]
    return []


def faults_of_top(module):
    allowed = (ast.ImportFrom, ast.FunctionDef, ast.ClassDef, ast.Assign)
    found = [("L3", ast.unparse(part)) for part in module.body[1:] if not isinstance(part, allowed)]
    bound = [name for part in module.body for name in names_of(part)]
    bound += [name for part in module.body if isinstance(part, ast.Assign) for name in names_of(part.targets[0])]
    return found + [("L15", name) for name in sorted(set(bound)) if bound.count(name) > 1]


def faults_of(text):
    """Pairs of a rule and what is against it."""
    module = ast.parse(text)
    found = faults_of_text(text) + faults_of_top(module)
    methods = {
        part.name for own in module.body if isinstance(own, ast.ClassDef) for part in own.body
        if isinstance(part, ast.FunctionDef)
    }
    found += faults_of_walks(module) + faults_of_values(module, methods)
    for node in ast.walk(module):
        found += faults_of_part(node, methods)
        for name in names_of(node):
            found += faults_of_name(name)
    return found


class Language(unittest.TestCase):
    def test_the_package_keeps_to_it(self):
        files = sorted(PACKAGE.glob("*.py"))
        self.assertIn("walked.py", [file.name for file in files])
        for file in files:
            self.assertEqual(faults_of(file.read_text("utf-8")), [], file.name)

    def test_only_plain_python_files_lie_in_the_package(self):
        names = [path.name for path in PACKAGE.iterdir() if path.name != "__pycache__"]
        self.assertIn("__init__.py", names)
        self.assertEqual([name for name in names if not re.fullmatch("(__init__|[a-z][a-z0-9_]*)[.]py", name)], [])

    def test_what_is_outside_is_found(self):
        for rule, text in (
            ("L2", "'''top'''\nfrom os import path\n"),
            ("L3", "'''top'''\nprint(1)\n"),
            ("L4", "'''top'''\ndef f(*xs):\n    return xs\n"),
            ("L5", "'''top'''\nclass A:\n    x = 1\n"),
            ("L6", "'''top'''\ndef f():\n    a = b = 1\n    return a + b\n"),
            ("L6 or L7", "'''top'''\ndef f(xs):\n    del xs[0]\n"),
            ("L6 or L7", "'''top'''\nimport sys\n"),
            ("L7", "'''top'''\ndef f(x):\n    return x / 2\n"),
            ("L8", "'''top'''\ndef f(x):\n    return hash(x)\n"),
            ("L10", "'''top'''\ndef f(x):\n" + "    x = x + 1\n" * 40),
            ("L12", "'''top'''\ndef f():\n    _x = 1\n    return _x\n"),
            ("L14", "'''top'''\nX = '\u00e4'\n"),
            ("L15", "'''top'''\nA = 1\nA = 2\n"),
            ("L15", "'''top'''\ndef f(min):\n    return min\n"),
            ("L17", "'''the type'''\n"),
            ("L18", "'''top'''\nclass A:\n    def f(self):\n        self.f = 1\n"),
            ("L20", "'''top'''\ndef f(x, y):\n    return x is y\n"),
            ("L21", "'''top'''\ndef f(x: int):\n    return x\n"),
            ("L23", "'''top'''\ndef f(xs, ys):\n    xs.extend(reversed(ys))\n"),
            ("L23", "'''top'''\ndef f(d):\n    return d.items()\n"),
            ("L25", "'''top'''\ndef f(xs):\n    xs.sort()\n"),
        ):
            self.assertIn(rule, [found[0] for found in faults_of(text)], text)


if __name__ == "__main__":
    unittest.main()
