"""Checks that the files of a package keep to the small part of Python that the program is written in.

It sees the plain cases of the rules, not all of them: files, sizes, signs, words, imports, statements,
expressions, names and methods.
"""

import ast
import builtins
import pathlib
import re
import sys

STATEMENTS = (
    ast.Assign, ast.AugAssign, ast.If, ast.While, ast.For, ast.Return, ast.Break, ast.Continue, ast.Pass,
    ast.Raise, ast.Try, ast.Expr, ast.FunctionDef, ast.ClassDef, ast.ImportFrom,
)
EXPRESSIONS = (
    ast.Constant, ast.Name, ast.List, ast.Tuple, ast.Dict, ast.Set, ast.BinOp, ast.UnaryOp, ast.BoolOp,
    ast.Compare, ast.IfExp, ast.Call, ast.Attribute, ast.Subscript, ast.Slice, ast.ListComp, ast.JoinedStr,
    ast.FormattedValue, ast.Lambda,
)
OWN_NAMES = set(
    "len range enumerate zip min max sum abs sorted reversed int str bool list tuple dict set frozenset "
    "isinstance ord repr any all divmod Exception ValueError KeyError IndexError LookupError "
    "ZeroDivisionError ArithmeticError OverflowError RuntimeError NotImplementedError StopIteration".split()
)
METHODS = set(
    "append clear copy count endswith extend find get index insert isalnum isalpha isdigit islower isspace "
    "isupper items join keys ljust lower lstrip partition pop remove replace reverse rfind rjust rpartition "
    "rsplit rstrip setdefault split splitlines startswith strip update upper values zfill bit_length".split()
)
WORDS = re.compile(
    r"\b(type|typing|typing_extensions|enum|Enum|IntEnum|StrEnum|Flag|IntFlag|Generic|Protocol|ABC|ABCMeta|"
    r"namedtuple|NamedTuple|TypedDict|TYPE_CHECKING|abstractmethod)\b"
    r"|dataclass|overload|contextmanager"
)
UNUSED = {"register", "mro", "elements", "open", "input", "version_info", "with_traceback", "add_note"}
PYTHONS_OWN = {name for kind in (str, int, list, dict, set, bytes, tuple) for name in dir(kind)}
DUNDERS = {"__init__", "__eq__", "__repr__", "__str__", "__len__"}


def file_faults(path, text):
    if not re.fullmatch(r"[a-z0-9_]+\.py", path.name):
        yield 0, "L14 the file's name"
    rows = text.split("\n")
    if len(rows) > 400:
        yield 401, "L10 a file of more than 400 lines"
    for number, row in enumerate(rows, start=1):
        if len(row) > 120:
            yield number, "L10 a line of more than 120 characters"
        if not re.fullmatch(r"[ -~]*", row):
            yield number, "L14 a sign that is not from the blank to ~"
        if WORDS.search(row):
            yield number, "L17 the word " + WORDS.search(row)[0]


def bound_names(node):
    if isinstance(node, (ast.FunctionDef, ast.ClassDef)):
        yield node.name
    if isinstance(node, ast.arg):
        yield node.arg
    if isinstance(node, ast.Name) and isinstance(node.ctx, ast.Store):
        yield node.id


def name_faults(node, methods):
    for name in bound_names(node):
        if name.startswith("_") and name not in DUNDERS:
            yield "L12 the name " + name
        if name in dir(builtins) and name not in methods:
            yield "L15 a name of Python's own: " + name
        if name in UNUSED:
            yield "L17 the name " + name
    if isinstance(node, ast.Name) and isinstance(node.ctx, ast.Load):
        if node.id in dir(builtins) and node.id not in OWN_NAMES:
            yield "L8 the name " + node.id
    if isinstance(node, ast.Attribute) and node.attr in UNUSED:
        yield "L17 the name " + node.attr
    if isinstance(node, ast.Attribute) and node.attr in PYTHONS_OWN:
        if node.attr not in METHODS | {"__init__", "title", "add"}:
            yield "L25 the method " + node.attr


def node_faults(node, package):
    if isinstance(node, ast.stmt) and not isinstance(node, STATEMENTS):
        yield "L6 " + node.__class__.__name__
    if isinstance(node, ast.expr) and not isinstance(node, EXPRESSIONS):
        yield "L7 " + node.__class__.__name__
    if isinstance(node, ast.ImportFrom) and (node.level or not node.module.startswith(package + ".")):
        yield "L2 an import from elsewhere"
    if isinstance(node, ast.Constant) and isinstance(node.value, (float, complex, bytes)):
        yield "L7 " + repr(node.value)
    if isinstance(node, ast.Constant) and isinstance(node.value, str) and "%" in node.value:
        yield "L27 the sign % in a text"
    if isinstance(node, ast.BinOp) and isinstance(node.op, (ast.Div, ast.MatMult)):
        yield "L7 / or @"
    if isinstance(node, ast.BinOp) and isinstance(node.op, ast.Pow) and not isinstance(node.right, ast.Constant):
        yield "L27 an exponent that is not written"
    if isinstance(node, ast.ListComp) and (len(node.generators) > 1 or len(node.generators[0].ifs) > 1):
        yield "L7 a comprehension with more than one for or if"
    if isinstance(node, (ast.For, ast.While)) and node.orelse or isinstance(node, ast.Try) and node.finalbody:
        yield "L6 else behind a loop, or finally"
    if isinstance(node, ast.Assign) and len(node.targets) > 1:
        yield "L6 more than one target"
    if isinstance(node, ast.Compare) and any(isinstance(op, (ast.Is, ast.IsNot)) for op in node.ops):
        if not all(isinstance(side, ast.Constant) for side in node.comparators):
            yield "L20 is beside a value"
    if isinstance(node, (ast.FunctionDef, ast.ClassDef)) and node.decorator_list:
        yield "L4 a decorator"
    if isinstance(node, ast.FunctionDef) and node.end_lineno - node.lineno >= 40:
        yield "L10 a function of more than 40 lines"
    if isinstance(node, ast.arguments) and (node.vararg or node.kwarg or node.kwonlyargs or node.posonlyargs):
        yield "L4 parameters that are not plain"


def methods_of(tree):
    return {part.name for node in ast.walk(tree) if isinstance(node, ast.ClassDef)
            for part in node.body if isinstance(part, ast.FunctionDef)}


def faults(path, package):
    text = path.read_text(encoding="utf-8")
    yield from file_faults(path, text)
    tree = ast.parse(text)
    for node in ast.walk(tree):
        for fault in [*node_faults(node, package), *name_faults(node, methods_of(tree))]:
            yield getattr(node, "lineno", 0), fault


def main(folder):
    paths = [path for path in sorted(folder.rglob("*")) if "__pycache__" not in path.parts and path.is_file()]
    told = 0
    for path in paths:
        found = faults(path, folder.name) if path.suffix == ".py" else [(0, "L1 not a .py file")]
        for line, fault in found:
            print(f"{path}:{line}: {fault}")
            told += 1
    if not (folder / "__init__.py").is_file():
        print(f"{folder}: L14 no __init__.py")
        told += 1
    print(f"{len(paths)} files looked at, {told} faults of form")
    return 1 if told else 0


if __name__ == "__main__":
    sys.exit(main(pathlib.Path(sys.argv[1])))
