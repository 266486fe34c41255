"""Looks at the files of the package for breaches of the subset of Python in which they are written.

It finds what can be seen without running anything, and is stricter than the subset where the
package does not need more. Each check yields (file, line, rule).
"""

import ast
import builtins
import functools
import pathlib
import re

PACKAGE = pathlib.Path(__file__).parent.parent / "soundtill"

BUILTINS = set(
    "len range enumerate zip min max sum abs sorted reversed int str bool list tuple dict set isinstance ord repr any all "
    "divmod property staticmethod classmethod super Exception ValueError TypeError KeyError NotImplemented NotImplementedError map".split()
)
METHODS = set(
    "append clear copy count endswith extend find get index insert isalnum isalpha isdigit islower isspace isupper items "
    "join keys ljust lower lstrip partition pop remove replace reverse rfind rjust rpartition rsplit rstrip setdefault "
    "split splitlines startswith strip update upper values zfill bit_length".split()
)
DUNDERS = set(
    "init eq repr str len enter exit call iter lt le gt ge ne add sub mul floordiv mod pow and or xor lshift rshift iadd "
    "isub imul ior iand neg pos invert abs bool contains getitem setitem".split()
)
NOWHERE = set("register mro elements open input law version_info with_traceback add_note".split())
CLASS_WORDS = ("__class__", "__name__")
STATEMENTS = (
    ast.Assign, ast.If, ast.While, ast.For, ast.Return, ast.Break, ast.Continue, ast.Pass, ast.Raise, ast.Assert,
    ast.Delete, ast.With, ast.Try, ast.Expr, ast.FunctionDef,
)
AT_ONCE = ("zip", "enumerate", "reversed", "range")
BARRED = re.compile(
    r"\b(type|typing|enum|Enum|IntEnum|Flag|Generic|Protocol|ABC|namedtuple|NamedTuple|TypedDict|abstractmethod)\b"
    r"|dataclass|overload|contextmanager|Meta|metaclass=|_wall|_WallAttr|\b_record[0-9_]*\b"
)


@functools.lru_cache(maxsize=None)
def trees():
    """The name, the text and the tree of each file."""
    return [(path.name, path.read_text(), ast.parse(path.read_text())) for path in sorted(PACKAGE.rglob("*.py"))]


def nodes(kind):
    """Yields the file and the node of each node of a kind."""
    for name, _, tree in trees():
        for node in ast.walk(tree):
            if isinstance(node, kind):
                yield name, node


def functions():
    return list(nodes(ast.FunctionDef))


def called(node):
    """The bare name that a node calls, if it is such a call."""
    if isinstance(node, ast.Call) and isinstance(node.func, ast.Name):
        return node.func.id
    return None


def bound_names(tree):
    """The names that stand for something at the top of a file."""
    found = []
    for node in tree.body:
        if isinstance(node, ast.ImportFrom):
            found += [alias.name for alias in node.names]
        elif isinstance(node, (ast.FunctionDef, ast.ClassDef)):
            found.append(node.name)
        elif isinstance(node, ast.Assign):
            found += [target.id for target in node.targets]
    return found


def locals_of(function):
    arguments = function.args
    found = [one.arg for one in arguments.args + arguments.kwonlyargs]
    found += [one.arg for one in (arguments.vararg, arguments.kwarg) if one is not None]
    return found + [node.id for node in ast.walk(function) if isinstance(node, ast.Name) and isinstance(node.ctx, ast.Store)]


def files_and_sizes():
    for path in sorted(PACKAGE.rglob("*")):
        if "__pycache__" not in path.parts and path.suffix != ".py" and path.is_file():
            yield path.name, 0, "L1 a file that is no .py"
    for name, text, _ in trees():
        lines = text.split("\n")
        if len(lines) - 1 > 399:
            yield name, len(lines), "L10 file too long"
        for at, line in enumerate(lines, 1):
            if len(line) > 120 or "\t" in line:
                yield name, at, "L10 line too long, or a tab"
            if any(not " " <= sign <= "~" for sign in line):
                yield name, at, "L14 sign"
            if BARRED.search(line):
                yield name, at, "L17 word"
    for name, function in functions():
        if function.end_lineno - function.lineno + 1 > 40:
            yield name, function.lineno, "L10 function too long"


def imports():
    names = {name: bound_names(tree) for name, _, tree in trees()}
    defined = {
        name: [node.name for node in tree.body if isinstance(node, (ast.FunctionDef, ast.ClassDef))]
        + [target.id for node in tree.body if isinstance(node, ast.Assign) for target in node.targets]
        for name, _, tree in trees()
    }
    needs = {name: set() for name in names}
    for name, node in nodes((ast.Import, ast.ImportFrom)):
        if isinstance(node, ast.Import) or node.level or not node.module.startswith("soundtill."):
            yield name, node.lineno, "L2 import"
            continue
        source = node.module.split(".")[1] + ".py"
        needs[name].add(source)
        for alias in node.names:
            if alias.asname or alias.name not in defined[source]:
                yield name, node.lineno, "L16 import from the file that defines the name"
    for name, found in names.items():
        if len(found) != len(set(found)):
            yield name, 0, "L15 a name bound twice"
    for name in needs:
        seen, more = set(), set(needs[name])
        while more:
            seen |= more
            more = {other for one in more for other in needs[one]} - seen
        if name in seen:
            yield name, 0, "L16 files that import one another"


def module_level():
    for name, _, tree in trees():
        for at, node in enumerate(tree.body):
            if at == 0 and isinstance(node, ast.Expr):
                continue
            if not isinstance(node, (ast.ImportFrom, ast.FunctionDef, ast.ClassDef, ast.Assign)):
                yield name, node.lineno, "L3 module level"
            if isinstance(node, ast.Assign) and not is_plain(node.value, {made.name for made in tree.body[:at] if isinstance(made, ast.FunctionDef)}):
                yield name, node.lineno, "L3 no plain value"


def is_plain(value, above):
    """Whether a value is a literal, or a dict from literals to functions defined above."""
    if isinstance(value, ast.Dict) and all(isinstance(part, ast.Name) and part.id in above for part in value.values):
        return all(isinstance(key, ast.Constant) for key in value.keys)
    try:
        ast.literal_eval(value)
    except ValueError:
        return False
    return True


def statements_and_values():
    # A book is changed by += and -=; nothing else is, and no method does so.
    plain = {(name, node.lineno) for name, _, tree in trees() for function in tree.body
             if isinstance(function, ast.FunctionDef) for node in ast.walk(function) if isinstance(node, ast.AugAssign)}
    for name, node in nodes(ast.stmt):
        if not isinstance(node, (*STATEMENTS, ast.ImportFrom, ast.ClassDef)) and (name, node.lineno) not in plain:
            yield name, node.lineno, "L6 statement (or a sign of L5, +=)"
    for name, node in nodes((ast.Lambda, ast.Await, ast.GeneratorExp, ast.Set, ast.NamedExpr, ast.Div, ast.MatMult, ast.Pow)):
        yield name, getattr(node, "lineno", 0), f"L7 {type(node).__name__}"
    for name, node in nodes(ast.Constant):
        if isinstance(node.value, (float, complex, bytes)) or node.value is Ellipsis:
            yield name, node.lineno, "L7 value"
        if isinstance(node.value, str) and "%" in node.value:
            yield name, node.lineno, "L27 sign"
    for name, node in nodes(ast.Compare):
        for operator, side in zip(node.ops, node.comparators):
            if isinstance(operator, (ast.Is, ast.IsNot)) and not (isinstance(side, ast.Constant) and side.value is None):
                yield name, node.lineno, "L20 is"


def names_used():
    own = {node.name for _, node in nodes((ast.FunctionDef, ast.ClassDef))}
    for name, _, tree in trees():
        taken = set(bound_names(tree))
        for node in ast.walk(tree):
            if isinstance(node, ast.FunctionDef):
                for local in locals_of(node):
                    if local in taken or hasattr(builtins, local):
                        yield name, node.lineno, f"L15 local name {local}"
            if isinstance(node, ast.Name) and hasattr(builtins, node.id) and node.id not in BUILTINS | {"TypeError"}:
                yield name, node.lineno, f"L8 {node.id}"
            words = [getattr(node, field, None) for field in ("id", "attr", "arg", "name")]
            for word in [word for word in words if isinstance(word, str)]:
                if word in NOWHERE or (word.startswith("__") and word[2:-2] not in DUNDERS and word not in CLASS_WORDS):
                    yield name, getattr(node, "lineno", 0), f"L17 {word}"
            if isinstance(node, ast.Attribute) and node.attr.startswith("__") and node.attr not in ("__init__", *CLASS_WORDS):
                yield name, node.lineno, "L5 signs are used as signs"
            if isinstance(node, ast.Call) and isinstance(node.func, ast.Attribute):
                if node.func.attr not in own | METHODS and node.func.attr != "__init__":
                    yield name, node.lineno, f"L25 {node.func.attr}"


def class_names():
    inside = set()
    for name, node in nodes(ast.Attribute):
        if node.attr == "__name__" and isinstance(node.value, ast.Attribute) and node.value.attr == "__class__":
            inside.add((name, node.value.lineno, node.value.end_col_offset))
            if not isinstance(node.value.value, (ast.Name, ast.Attribute)):
                yield name, node.lineno, "L8 what stands before .__class__.__name__"
        elif node.attr == "__name__":
            yield name, node.lineno, "L8 __name__ alone"
    for name, node in nodes(ast.Attribute):
        if node.attr == "__class__" and (name, node.lineno, node.end_col_offset) not in inside:
            yield name, node.lineno, "L8 __class__ alone"
    for name, node in nodes(ast.Name):
        if node.id in CLASS_WORDS:
            yield name, node.lineno, "L8 " + node.id


def classes():
    methods, properties, statics, attributes = {}, {}, {}, {}
    for name, made in nodes(ast.ClassDef):
        if made.decorator_list or made.keywords:
            yield name, made.lineno, "L5 class"
        found = []
        for node in made.body:
            if isinstance(node, ast.Assign):
                if not isinstance(node.value, (ast.Constant, ast.Tuple)):
                    yield name, node.lineno, "L5 class value"
            elif isinstance(node, ast.FunctionDef):
                marks = [mark.id if isinstance(mark, ast.Name) else "setter" for mark in node.decorator_list]
                if "setter" not in marks:
                    found.append(node.name)
                kind = properties if "property" in marks else statics if marks and "setter" not in marks else methods
                if "setter" not in marks:
                    kind.setdefault(node.name, made.name)
                for part in ast.walk(node):
                    if isinstance(part, ast.Attribute) and isinstance(part.ctx, ast.Store):
                        attributes.setdefault(part.attr, (name, part.lineno))
            elif not (isinstance(node, ast.Expr) and node is made.body[0]):
                yield name, node.lineno, "L5 body of a class"
        if len(found) != len(set(found)):
            yield name, made.lineno, "L18 a method defined twice"
        if "__getitem__" in found and "__iter__" not in found:
            yield name, made.lineno, "L5 __getitem__ without __iter__"
    for kind, others in ((properties, methods), (statics, methods), (statics, properties)):
        for word in set(kind) & set(others):
            yield kind[word], 0, f"L5 {word} in {others[word]}"
    for word in set(attributes) & (set(statics) | set(methods)):
        yield *attributes[word], f"L5 or L18 attribute {word}"
    made_here = {node.name for _, node in nodes(ast.ClassDef)}
    for name, node in nodes(ast.Attribute):
        if isinstance(node.value, ast.Name) and node.value.id in made_here and node.attr in set(methods) | set(properties):
            yield name, node.lineno, f"L5 {node.attr} is read off a class"
    for word in set(attributes) & METHODS - {"count", "index", "find", "get", "join", "lower", "upper", "split", "strip"}:
        yield *attributes[word], f"L26 attribute {word}"


def assigned_properties():
    """Yields what is assigned, in any class or function, to the name of a property without a setter in some class."""
    bare = set()
    for _, made in nodes(ast.ClassDef):
        decorated = [(node.name, mark) for node in made.body if isinstance(node, ast.FunctionDef) for mark in node.decorator_list]
        setters = {word for word, mark in decorated if isinstance(mark, ast.Attribute) and mark.attr == "setter"}
        bare |= {word for word, mark in decorated if isinstance(mark, ast.Name) and mark.id == "property"} - setters
    for name, node in nodes(ast.Attribute):
        if isinstance(node.ctx, ast.Store) and node.attr in bare:
            yield name, node.lineno, f"L5 property {node.attr} is assigned"


def generators():
    yields = [(name, function) for name, function in functions()
              if any(isinstance(node, (ast.Yield, ast.YieldFrom)) for node in ast.walk(function))]
    every = [function.name for _, function in functions()]
    for name, function in yields:
        if every.count(function.name) > 1 or function.decorator_list or function.name in METHODS:
            yield name, function.lineno, "L23 name of a generator"
        for node in ast.walk(function):
            if isinstance(node, (ast.Try, ast.With)) or (isinstance(node, ast.Return) and node.value):
                yield name, node.lineno, "L23 generator"
    names = {function.name for _, function in yields}
    for name, node in nodes(ast.Call):
        word = getattr(node.func, "attr", getattr(node.func, "id", None))
        if called(node) in ("sorted", "any", "all", "sum", "min", "max"):
            for part in node.args:
                inner = getattr(getattr(part, "func", None), "attr", called(part))
                if inner in names:
                    yield name, node.lineno, "L7 a list for any, all, min, max, sum, sorted"
        if word in names:
            yield from stored(name, node)
        if called(node) in AT_ONCE:
            yield from stored(name, node)


def stored(name, node):
    """A breach if the call is the value of an assignment, is returned or stands beside a comparison."""
    for other, parent in nodes((ast.Assign, ast.Return, ast.Compare, ast.BinOp)):
        if other == name and any(same_place(child, node) for child in ast.iter_child_nodes(parent)):
            if not (isinstance(parent, ast.Compare) and called(node) == "range"):
                yield name, node.lineno, "L23 iterated at once"


def same_place(one, other):
    return isinstance(one, ast.Call) and (one.lineno, one.col_offset, one.end_col_offset, one.end_lineno) == (
        other.lineno, other.col_offset, other.end_col_offset, other.end_lineno)


def sets():
    for name, _, tree in trees():
        inside = set()
        for node in ast.walk(tree):
            if called(node) in ("sorted", "len"):
                inside |= {id(part) for part in node.args}
            if isinstance(node, ast.Compare):
                inside |= {id(part) for part in node.comparators}
        for node in ast.walk(tree):
            if (called(node) == "set" or isinstance(node, ast.SetComp)) and id(node) not in inside:
                yield name, node.lineno, "L24 set"
            if called(node) == "sorted" and isinstance(node.args[0], ast.GeneratorExp):
                yield name, node.lineno, "L5 sorted takes a list"


def errors():
    made = {node.name for name, node in nodes(ast.ClassDef) if name == "errors.py"}
    for name, node in nodes(ast.Raise):
        if called(node.exc) not in made | {"TypeError", "NotImplementedError"}:
            yield name, node.lineno, "L19 raise"
    for name, node in nodes(ast.ExceptHandler):
        if not isinstance(node.type, ast.Name) or node.type.id not in made | {"KeyError"}:
            yield name, node.lineno, "L19 except"


def endings():
    for name, function in functions():
        returns = [node.value for node in ast.walk(function) if isinstance(node, ast.Return)]
        if function.name in ("__str__", "__repr__"):
            for value in returns:
                joins = isinstance(value, ast.Call) and isinstance(value.func, ast.Attribute) and value.func.attr == "join"
                plain = isinstance(value, (ast.JoinedStr, ast.Constant)) or called(value) in ("str", "repr")
                if not (plain or (joins and isinstance(value.func.value, ast.Constant))):
                    yield name, function.lineno, "L28 return of __str__"
            if any(isinstance(node, ast.BinOp) for node in ast.walk(function)):
                yield name, function.lineno, "L5 + in __str__"
        if function.name == "__len__" and not all(called(value) == "len" for value in returns):
            yield name, function.lineno, "L28 return of __len__"
        for value in returns if function.name == "__bool__" else []:
            if called(value) != "bool" and not (isinstance(value, ast.Constant) and isinstance(value.value, bool)):
                yield name, function.lineno, "L5 return of __bool__"
    for name, node in nodes(ast.Starred):
        if isinstance(node.ctx, ast.Load) and isinstance(node.value, ast.GeneratorExp):
            yield name, node.lineno, "L7 star"
    for name, node in nodes(ast.Call):
        for part in [*node.args, *[word.value for word in node.keywords if word.arg is None]]:
            inner = part.value if isinstance(part, ast.Starred) else part
            if inner is not part and not isinstance(inner, (ast.Name, ast.Attribute, ast.List, ast.Tuple)):
                yield name, node.lineno, "L7 what stands behind a star"


CHECKS = (
    files_and_sizes, imports, module_level, statements_and_values, names_used, class_names, classes, assigned_properties, generators, sets, errors, endings,
)
