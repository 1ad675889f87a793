"""Checks the files of the package against those rules of LANGUAGE.md that a glance at the code tells.

It finds slips, not all of them: whoever changes the package still goes through the paper.
"""

import ast
import builtins
import re
import sys
from pathlib import Path

PACKAGE = "leastroads"
BUILTINS = set(
    "len range enumerate zip min max sum abs sorted reversed int str bool bytes list tuple dict set "
    "isinstance ord repr any all divmod pow iter next map Exception ValueError TypeError KeyError "
    "IndexError LookupError ZeroDivisionError ArithmeticError OverflowError RuntimeError "
    "NotImplementedError AttributeError StopIteration super".split())
METHODS = set(
    "append clear copy count endswith extend find get index insert isalnum isalpha isdigit islower "
    "isspace isupper items join keys ljust lower lstrip partition pop remove replace reverse rfind "
    "rjust rpartition rsplit rstrip setdefault split splitlines startswith strip update upper values "
    "zfill bit_length add discard isascii __init__".split())
DUNDERS = set("__init__ __eq__ __repr__ __str__ __len__".split())
BARRED = re.compile(
    r"(?<!\w)(type|typing|typing_extensions|enum|Enum|IntEnum|StrEnum|Flag|IntFlag|Generic|Protocol|ABC"
    r"|ABCMeta|namedtuple|NamedTuple|TypedDict|TYPE_CHECKING|abstractmethod)(?!\w)")
NEVER = set("register mro elements open input law version_info with_traceback add_note".split())
NOT_ALLOWED = (
    ast.Global, ast.AsyncFunctionDef, ast.AsyncFor, ast.AsyncWith, ast.Await, ast.GeneratorExp, ast.Div,
    ast.Import, ast.AnnAssign)
COMPREHENSIONS = (ast.ListComp, ast.DictComp, ast.SetComp)
NO_ATTRIBUTES = set(
    "items keys values pop update append clear extend insert remove reverse setdefault sort args encode "
    "decode hex fromhex format format_map mro as_integer_ratio bit_count conjugate from_bytes "
    "is_integer to_bytes".split())


def docstrings(tree):
    """The constants that are docstrings."""
    found = []
    for node in ast.walk(tree):
        if isinstance(node, (ast.Module, ast.ClassDef, ast.FunctionDef)) and node.body:
            first = node.body[0]
            if isinstance(first, ast.Expr) and isinstance(first.value, ast.Constant):
                found.append(first.value)
    return found


def bound_names(node):
    """The names that a node binds."""
    if isinstance(node, (ast.FunctionDef, ast.ClassDef)):
        return [node.name]
    if isinstance(node, ast.arg):
        return [node.arg]
    if isinstance(node, ast.Name) and isinstance(node.ctx, ast.Store):
        return [node.id]
    if isinstance(node, ast.alias):
        return [node.asname or node.name]
    return []


def text_faults(lines):
    if len(lines) > 399:
        yield 400, "L10 more than 399 lines"
    for at, line in enumerate(lines, 1):
        if len(line) > 120:
            yield at, "L10 more than 120 characters"
        if re.search(r"[^ -~]", line):
            yield at, "L14 a character that is none from the space to ~"


def name_faults(node, methods):
    for name in bound_names(node):
        plain = re.fullmatch(r"_?[A-Za-z][A-Za-z0-9_]*|_", name)
        if not plain and not (name in DUNDERS and node in methods):
            yield "L12 the name " + name
        if hasattr(builtins, name) and node not in methods or name in NEVER:
            yield "L15 L17 the name " + name


def value_faults(node, docs, names, own):
    if isinstance(node, NOT_ALLOWED):
        yield "L2 L6 L7 " + type(node).__name__
    if isinstance(node, ast.Constant) and isinstance(node.value, (float, complex)):
        yield "L7 a float"
    if isinstance(node, ast.Constant) and isinstance(node.value, str) and node not in docs:
        if "%" in node.value or re.fullmatch(r"__.*__", node.value) or BARRED.search(node.value):
            yield "L17 L27 a string"
    if isinstance(node, ast.Name) and node.id not in names and node.id not in BUILTINS:
        yield "L8 the name " + node.id
    if isinstance(node, ast.Call) and isinstance(node.func, ast.Attribute):
        if node.func.attr not in METHODS | own:
            yield "L25 the method " + node.func.attr
    if isinstance(node, ast.Set) and len(node.elts) > 2:
        yield "L13 a set"
    if isinstance(node, ast.BinOp) and isinstance(node.op, ast.Pow):
        if not isinstance(node.right, ast.Constant):
            yield "L27 an exponent"


def shape_faults(node, module):
    if isinstance(node, ast.ImportFrom):
        if node.level or not node.module.startswith(PACKAGE + ".") or node not in module.body:
            if node.module not in ("heapq", "math", "itertools", "collections"):
                yield "L2 L16 an import"
    if isinstance(node, ast.FunctionDef) and node.end_lineno - node.lineno + 1 > 40:
        yield "L10 more than 40 lines"
    if isinstance(node, ast.ClassDef) and node.decorator_list:
        yield "L5 a decorator over a class"
    if isinstance(node, ast.Compare):
        for sign, side in zip(node.ops, node.comparators):
            if isinstance(sign, (ast.Is, ast.IsNot)):
                if not isinstance(side, ast.Constant) or side.value not in (None, True, False):
                    yield "L20 is"


def attributes_of(each):
    """The names of the attributes that the methods of a class assign to their own objects."""
    return {
        node.attr for node in ast.walk(each)
        if isinstance(node, ast.Attribute) and isinstance(node.ctx, ast.Store)}


def class_faults(each):
    methods = {node.name for node in each.body if isinstance(node, ast.FunctionDef)}
    for name in sorted(methods & attributes_of(each)):
        yield each.lineno, "L18 a method and an attribute " + name
    for name in sorted(attributes_of(each) & NO_ATTRIBUTES):
        yield each.lineno, "L26 the attribute " + name


def level_names(module):
    """The names bound at module level, each as often as it is."""
    found = [name for node in module.body for name in bound_names(node)]
    for node in module.body:
        if isinstance(node, ast.Assign):
            found += [name for target in node.targets for name in bound_names(target)]
        if isinstance(node, ast.ImportFrom):
            found += [name for alias in node.names for name in bound_names(alias)]
    return found


def binding_faults(module):
    """Names bound twice, and names within functions that a class or an import of the file has, too."""
    names = level_names(module)
    for name in sorted(set(names)):
        if names.count(name) > 1:
            yield 0, "L15 bound twice: " + name
    taken = {node.name for node in module.body if isinstance(node, ast.ClassDef)}
    for node in module.body:
        if isinstance(node, ast.ImportFrom):
            taken |= {name for alias in node.names for name in bound_names(alias)}
    for top in module.body:
        if isinstance(top, (ast.FunctionDef, ast.ClassDef)):
            for node in ast.walk(top):
                if isinstance(node, (ast.arg, ast.Name)):
                    for name in bound_names(node):
                        if name in taken:
                            yield node.lineno, "L15 the name " + name


def import_faults(module):
    """Imports from a file that does not define the name itself, or that are not used."""
    used = {node.id for node in ast.walk(module) if isinstance(node, ast.Name)}
    for node in module.body:
        if isinstance(node, ast.ImportFrom) and node.module.startswith(PACKAGE + "."):
            other = ast.parse(Path(node.module.replace(".", "/") + ".py").read_text(encoding="utf-8"))
            own = [each for each in other.body if not isinstance(each, ast.ImportFrom)]
            defined = level_names(ast.Module(own, []))
            for name in node.names:
                if name.name not in defined:
                    yield node.lineno, "L16 not defined there: " + name.name
                if name.name not in used:
                    yield node.lineno, "not used: " + name.name


def level_faults(module):
    for node in module.body:
        if not isinstance(node, (ast.Expr, ast.ImportFrom, ast.FunctionDef, ast.ClassDef, ast.Assign)):
            yield node.lineno, "L3 a statement at module level"
        if not isinstance(node, (ast.FunctionDef, ast.ClassDef)):
            if any(isinstance(part, COMPREHENSIONS + (ast.Call,)) for part in ast.walk(node)):
                yield node.lineno, "L3 a call or a comprehension at module level"


def file_faults(path, own):
    text = path.read_text(encoding="utf-8")
    module = ast.parse(text)
    docs = docstrings(module)
    classes = [node for node in ast.walk(module) if isinstance(node, ast.ClassDef)]
    methods = [node for each in classes for node in each.body]
    names = {name for node in ast.walk(module) for name in bound_names(node)}
    yield from text_faults(text.split("\n"))
    yield from level_faults(module)
    yield from binding_faults(module)
    yield from import_faults(module)
    for each in classes:
        yield from class_faults(each)
    for node in ast.walk(module):
        at = getattr(node, "lineno", 0)
        faults = list(name_faults(node, methods)) + list(value_faults(node, docs, names, own))
        for fault in faults + list(shape_faults(node, module)):
            yield at, fault


def own_methods(paths):
    found = set()
    for path in paths:
        for each in ast.walk(ast.parse(path.read_text(encoding="utf-8"))):
            if isinstance(each, ast.ClassDef):
                found |= {node.name for node in each.body if isinstance(node, ast.FunctionDef)}
    return found


def main():
    paths = [path for path in sorted(Path(PACKAGE).rglob("*")) if "__pycache__" not in path.parts]
    own = own_methods([path for path in paths if path.suffix == ".py"])
    many = 0
    for path in paths:
        faults = [(0, "L1 no file of the package")]
        if path.is_file() and re.fullmatch(r"[a-z0-9_]+\.py", path.name):
            faults = list(file_faults(path, own))
        for at, fault in faults:
            print(f"{path}:{at}: {fault}")
        many += len(faults)
    sys.exit(1 if many else 0)


main()
