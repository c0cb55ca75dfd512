"""Finds the places of a package that lie outside the part of Python it keeps to, rule by rule.

Where a rule is wide and the package needs only a narrow part of it, the narrow part is what is let through here.
"""

import ast
import builtins
import io
import re
import tokenize

PACKAGE = "failrules"
ERRORS = (
    "Exception ValueError TypeError KeyError IndexError LookupError ZeroDivisionError ArithmeticError OverflowError "
    "RuntimeError NotImplementedError AttributeError StopIteration"
).split()
OWN_OF_PYTHON = (
    "len range enumerate zip min max sum abs sorted reversed int str bool list tuple dict set frozenset isinstance ord "
    "repr any all divmod"
).split()
DUNDERS = "__init__ __eq__ __repr__ __str__ __len__".split()
METHODS = (
    "append clear copy count endswith extend find get index insert isalnum isalpha isdigit islower isspace isupper "
    "items join keys ljust lower lstrip partition pop remove replace reverse rfind rjust rpartition rsplit rstrip "
    "setdefault split splitlines startswith strip update upper values zfill bit_length"
).split()
CHANGING = "append clear extend insert pop remove reverse setdefault update".split()
VALUE_NAMES = "count index title find get join lower upper split strip copy add".split()
NOWHERE = (
    "register mro elements open input version_info with_traceback add_note f_back tb_next co_names f_globals f_locals "
    "f_code f_builtins tb_frame tb_lineno gi_frame cr_frame co_code co_consts"
).split()
NOT_AS_NAMES = (
    "attrgetter breakpoint builtins compile copyright credits delattr dir eval exec exit gc getattr globals hasattr "
    "help id importlib license locals methodcaller os quit setattr super type vars"
).split()
WORDS = (
    "type typing typing_extensions enum Enum IntEnum StrEnum Flag IntFlag Generic Protocol ABC ABCMeta namedtuple "
    "NamedTuple TypedDict TYPE_CHECKING abstractmethod"
).split()
PARTS_OF_WORDS = ("dataclass", "overload", "contextmanager")
FILE_NAMES = "test tests testing site conftest sitecustomize usercustomize".split()
KEYWORDS = {
    "sorted": ("key", "reverse"), "min": ("key", "default"), "max": ("key", "default"), "sum": ("start",),
    "enumerate": ("start",), "zip": ("strict",),
}
WALKED = ("zip", "enumerate", "reversed", "range")
WALKERS = ("list", "tuple", "dict", "sorted", "sum", "any", "all", "enumerate", "zip", "min", "max")
STATEMENTS = (
    ast.Assign, ast.AugAssign, ast.If, ast.While, ast.For, ast.Return, ast.Break, ast.Continue, ast.Pass, ast.Raise,
    ast.Try, ast.Expr, ast.FunctionDef, ast.ClassDef, ast.ImportFrom, ast.Import,
)
OUTSIDE = (
    ast.Div, ast.MatMult, ast.SetComp, ast.DictComp, ast.GeneratorExp, ast.NamedExpr, ast.Starred, ast.Await, ast.Yield,
    ast.YieldFrom,
)
BUILTIN_NAMES = dir(builtins)
KINDS_OF_PYTHON = (str, int, list, dict, set, bytes, tuple)


class Part:
    """One file of the package: its path, its text and its tree with a way up."""

    def __init__(self, path, source):
        self.path = path
        self.source = source
        self.tree = ast.parse(source)
        self.nodes = list(ast.walk(self.tree))
        self.up = {child: node for node in self.nodes for child in ast.iter_child_nodes(node)}
        self.is_main = path.endswith("__main__.py")
        self.module = re.sub(r"/__init__$", "", path[:-3]).replace("/", ".")
        self.defs = [node for node in self.nodes if isinstance(node, ast.FunctionDef)]
        self.classes = [node for node in self.nodes if isinstance(node, ast.ClassDef)]
        self.imports = [node for node in self.nodes if isinstance(node, ast.ImportFrom)]
        self.calls = [node for node in self.nodes if isinstance(node, ast.Call)]

    def bound_at_top(self):
        """The names that are defined at the top, not those that are imported."""
        names = []
        for node in self.tree.body:
            if isinstance(node, (ast.FunctionDef, ast.ClassDef)):
                names.append(node.name)
            if isinstance(node, ast.Assign):
                names += [target.id for target in node.targets if isinstance(target, ast.Name)]
        return names

    def imported(self):
        return [alias.asname or alias.name for node in self.imports for alias in node.names]

    def is_docstring(self, node):
        above = self.up[node]
        return (isinstance(above, (ast.Module, ast.FunctionDef, ast.ClassDef)) and above.body[0] is node
                and isinstance(node.value, ast.Constant) and isinstance(node.value.value, str))

    def texts(self):
        return [node for node in self.nodes if isinstance(node, ast.Constant) and isinstance(node.value, str)]


def called_name(node):
    if isinstance(node, ast.Call) and isinstance(node.func, ast.Name):
        return node.func.id
    return None


def is_plain(node, names):
    if isinstance(node, ast.Constant):
        return node.value is None or isinstance(node.value, (int, str))
    if isinstance(node, ast.UnaryOp) and isinstance(node.op, ast.USub):
        return isinstance(node.operand, ast.Constant) and isinstance(node.operand.value, int)
    if isinstance(node, (ast.List, ast.Tuple)):
        return all(is_plain(inner, names) for inner in node.elts)
    if isinstance(node, ast.Dict):
        return all(key and is_plain(key, names) for key in node.keys) and all(is_plain(v, names) for v in node.values)
    return isinstance(node, ast.Name) and node.id in names


def file_faults(paths):
    """L1 and L14, of files and folders."""
    for path in paths:
        if not re.fullmatch(rf"{PACKAGE}(/[A-Za-z0-9_]+)+\.py", path):
            yield "L1", path, 0
        folder, name = path.rsplit("/", 1)
        for word in path[:-3].split("/"):
            if word != word.lower() or word in FILE_NAMES + WORDS or word.startswith("test_") or word in BUILTIN_NAMES:
                yield "L14", path, 0
        if name == "__main__.py" and folder != PACKAGE or f"{folder}/__init__.py" not in paths:
            yield "L14", path, 0


def import_faults(part):
    """L2."""
    for node in part.nodes:
        if isinstance(node, ast.Import):
            if not part.is_main or [(alias.name, alias.asname) for alias in node.names] != [("sys", None)]:
                yield "L2", node
        if isinstance(node, (ast.Import, ast.ImportFrom)) and part.up[node] is not part.tree:
            yield "L2", node
        if isinstance(node, ast.ImportFrom):
            own = node.module and node.module.split(".")[0] == PACKAGE and "__main__" not in node.module
            future = node.module == "__future__" and [alias.name for alias in node.names] == ["annotations"]
            if node.level or not (own or future) or any(alias.name == "*" for alias in node.names):
                yield "L2", node


def top_faults(part):
    """L3."""
    above = []
    for node in part.tree.body:
        if isinstance(node, ast.Assign) and isinstance(node.targets[0], ast.Name):
            if not is_plain(node.value, above):
                yield "L3", node
        elif isinstance(node, ast.FunctionDef):
            above.append(node.name)
        elif isinstance(node, ast.If) and part.is_main:
            pass
        elif isinstance(node, ast.Expr):
            if not part.is_docstring(node):
                yield "L3", node
        elif not isinstance(node, (ast.ClassDef, ast.ImportFrom, ast.Import)):
            yield "L3", node


def def_faults(part):
    """L4, L5, L21 and L28."""
    for node in part.defs:
        given = node.args
        if given.vararg or given.kwarg or given.kwonlyargs or given.posonlyargs or node.decorator_list:
            yield "L4", node
        if not all(is_plain(value, []) for value in given.defaults):
            yield "L4", node
        if node.returns or any(arg.annotation for arg in given.args):
            yield "L21", node
        if node.name == "__init__" and any(isinstance(n, ast.Return) and n.value for n in ast.walk(node)):
            yield "L28", node
        if node.name in DUNDERS[1:]:
            yield "L28", node
    for node in part.nodes:
        if isinstance(node, ast.AnnAssign):
            yield "L21", node
    for node in part.classes:
        if node.decorator_list or node.keywords or len(node.bases) > 1:
            yield "L5", node
        for inner in node.body:
            if isinstance(inner, ast.FunctionDef):
                if inner.name.startswith("__") and inner.name not in DUNDERS:
                    yield "L5", inner
            elif not isinstance(inner, ast.Pass):
                yield "L5", inner


def statement_faults(part):
    """L6."""
    for node in part.nodes:
        if isinstance(node, ast.stmt) and not isinstance(node, STATEMENTS):
            yield "L6", node
        if isinstance(node, (ast.For, ast.While)) and node.orelse:
            yield "L6", node
        if isinstance(node, ast.Assign) and len(node.targets) != 1:
            yield "L6", node
        if isinstance(node, ast.Expr) and not isinstance(node.value, ast.Call):
            # Only a file is said to have a docstring.
            if not (part.up[node] is part.tree and part.is_docstring(node)):
                yield "L6", node
        if isinstance(node, ast.Try) and node.finalbody or isinstance(node, ast.ExceptHandler) and not node.type:
            yield "L6", node


def expression_faults(part):
    """L7 and L20."""
    for node in part.nodes:
        if isinstance(node, OUTSIDE):
            yield "L7", part.up[node] if isinstance(node, ast.operator) else node
        if isinstance(node, ast.Constant) and isinstance(node.value, (float, complex, bytes, type(...))):
            yield "L7", node
        if isinstance(node, ast.ListComp) and (len(node.generators) != 1 or len(node.generators[0].ifs) > 1):
            yield "L7", node
        if isinstance(node, ast.FormattedValue):
            if not isinstance(node.value, ast.Name) or node.conversion not in (-1, 114) or node.format_spec:
                yield "L7", node
        if isinstance(node, ast.Dict) and None in node.keys:
            yield "L7", node
        if isinstance(node, ast.Compare) and any(isinstance(op, (ast.Is, ast.IsNot)) for op in node.ops):
            beside = [n for n in [node.left] + node.comparators if isinstance(n, ast.Constant)]
            if not any(n.value in (None, True, False) for n in beside):
                yield "L20", node


def names_in(part):
    """Each name with its place: names, parameters, defs, classes, attributes, imports."""
    for node in part.nodes:
        if isinstance(node, ast.Name):
            yield node.id, node, isinstance(node.ctx, ast.Store)
        elif isinstance(node, ast.arg):
            yield node.arg, node, True
        elif isinstance(node, (ast.FunctionDef, ast.ClassDef)):
            yield node.name, node, not isinstance(part.up[node], ast.ClassDef)
        elif isinstance(node, ast.Attribute):
            yield node.attr, node, False
        elif isinstance(node, ast.ExceptHandler) and node.name:
            yield node.name, node, True
        elif isinstance(node, ast.alias):
            yield node.asname or node.name, part.up[node], True


def name_faults(part):
    """L8, L9, L12 and L17."""
    allowed = ERRORS + OWN_OF_PYTHON
    for name, node, is_bound in names_in(part):
        as_attribute = isinstance(node, ast.Attribute)
        if not as_attribute and name in BUILTIN_NAMES and name not in allowed:
            if name == "print":
                if not part.is_main:
                    yield "L9", node
            elif not (part.is_main and name == "__name__"):
                yield "L8", node
        if is_bound and name in BUILTIN_NAMES or as_attribute and name in ("format", "format_map", "mro"):
            yield "L8", node
        if not re.fullmatch(r"[A-Za-z][A-Za-z0-9_]*", name):
            if name not in DUNDERS + ["__all__", "__version__", "__name__"]:
                yield "L12", node
        if name in NOWHERE or not as_attribute and name in NOT_AS_NAMES or name == "sys" and not part.is_main:
            yield "L17", node
    for number, line in enumerate(part.source.split("\n"), 1):
        words = re.findall(r"\w+", line)
        if set(words) & set(WORDS) or any(piece in word for piece in PARTS_OF_WORDS for word in words):
            yield "L17", number


def size_faults(part):
    """L10 and, of signs, L14."""
    lines = part.source.split("\n")
    if len(lines) > 401:
        yield "L10", 401
    for number, line in enumerate(lines, 1):
        if len(line) > 120 or "\t" in line:
            yield "L10", number
        if not re.fullmatch(r"[ -~]*", line):
            yield "L14", number
    for node in part.defs:
        if node.end_lineno - node.lineno + 1 > 40:
            yield "L10", node


def set_faults(part):
    """L11, L13 and L24."""
    for node in part.nodes:
        if isinstance(node, (ast.For, ast.comprehension)):
            if isinstance(node.iter, ast.Set) or called_name(node.iter) in ("set", "frozenset"):
                yield "L11", node.iter
        above = part.up.get(node)
        if isinstance(node, ast.Set) and len(node.elts) > 2:
            if not (isinstance(above, ast.Compare) and isinstance(above.ops[0], (ast.In, ast.NotIn))):
                yield "L13", node
        if isinstance(node, ast.Set) or called_name(node) in ("set", "frozenset"):
            while isinstance(above, ast.BinOp):
                above = part.up[above]
            if not (isinstance(above, ast.Compare) or called_name(above) in ("sorted", "len") and not above.keywords):
                yield "L24", node
    lambdas = [(n.lineno, [a.arg for a in n.args.args]) for n in part.nodes if isinstance(n, ast.Lambda)]
    for number, given in lambdas:
        if lambdas.count((number, given)) > 1:
            yield "L13", number


def keeping_faults(part):
    """L15."""
    top = part.bound_at_top() + part.imported()
    for name in top:
        if top.count(name) > 1:
            yield "L15", 1
    kept = []
    for node in part.tree.body:
        if isinstance(node, ast.Assign) and isinstance(node.value, (ast.List, ast.Dict)):
            kept.append(node.targets[0].id)
            if any(isinstance(n, (ast.List, ast.Dict)) for n in ast.walk(node.value) if n is not node.value):
                yield "L15", node
    for node in part.nodes:
        if isinstance(node, ast.Name) and node.id in kept and isinstance(node.ctx, ast.Load):
            if not is_only_read(part, node):
                yield "L15", node
        if isinstance(node, ast.ClassDef) and part.up[node] is not part.tree:
            yield "L15", node
    taken = part.imported() + [c.name for c in part.classes] + BUILTIN_NAMES
    for node in part.nodes:
        if isinstance(node, ast.arg) and node.arg in taken:
            yield "L15", node
        if isinstance(node, ast.Name) and isinstance(node.ctx, ast.Store) and node.id in taken:
            yield "L15", node


def is_only_read(part, node):
    above = part.up[node]
    if isinstance(above, ast.Subscript):
        return isinstance(above.ctx, ast.Load)
    if isinstance(above, ast.Attribute):
        return above.attr in ("get", "items", "keys", "values", "index", "count", "copy")
    if isinstance(above, (ast.For, ast.comprehension)):
        return above.iter is node
    return isinstance(above, ast.Compare) or called_name(above) in ("len", "list", "dict", "tuple", "sorted", "enumerate")


def class_faults(part):
    """L18."""
    names = [c.name for c in part.classes] + [name for name in part.imported() if re.match(r"[A-Z].*[a-z]", name)]
    for node in part.nodes:
        if isinstance(node, ast.Name) and node.id in names:
            above = part.up[node]
            is_called = isinstance(above, ast.Call) and above.func is node or called_name(above) == "isinstance"
            if not (is_called or isinstance(above, (ast.ClassDef, ast.ExceptHandler, ast.Raise))):
                yield "L18", node
    for node in part.classes:
        methods = [inner.name for inner in node.body if isinstance(inner, ast.FunctionDef)]
        if len(set(methods)) < len(methods):
            yield "L18", node
        bases = [base.id for base in node.bases if isinstance(base, ast.Name)]
        if len(bases) < len(node.bases) or any(base in ("StopIteration", "AttributeError") for base in bases):
            yield "L18", node


def error_faults(part):
    """L19, and more narrowly: of Python's own errors only KeyError and ZeroDivisionError are taken."""
    for node in part.nodes:
        if isinstance(node, ast.ExceptHandler):
            own = isinstance(node.type, ast.Name) and node.type.id not in ERRORS
            if not own and getattr(node.type, "id", None) not in ("KeyError", "ZeroDivisionError"):
                yield "L19", node
        if isinstance(node, ast.Raise) and not isinstance(node.exc, ast.Call):
            yield "L19", node


def builtin_faults(part):
    """L22."""
    for node in part.nodes:
        if isinstance(node, ast.Name) and node.id in OWN_OF_PYTHON:
            above = part.up[node]
            is_key = isinstance(above, ast.keyword) and above.arg == "key"
            in_isinstance = called_name(above) == "isinstance" or isinstance(above, ast.Tuple)
            if not (isinstance(above, ast.Call) and above.func is node or is_key or in_isinstance):
                yield "L22", node
    for node in part.calls:
        given = [keyword.arg for keyword in node.keywords]
        if called_name(node) in OWN_OF_PYTHON and not set(given) <= set(KEYWORDS.get(called_name(node), ())):
            yield "L22", node
        if isinstance(node.func, ast.Attribute) and node.func.attr in METHODS and given:
            yield "L22", node


def walk_faults(part):
    """L23."""
    for node in part.calls:
        lazy = called_name(node) in WALKED
        if isinstance(node.func, ast.Attribute) and node.func.attr in ("items", "keys", "values"):
            lazy = True
        above = part.up[node]
        walked = isinstance(above, (ast.For, ast.comprehension)) and above.iter is node
        if lazy and not walked and not (called_name(above) in WALKERS and above.args[0] is node):
            yield "L23", node
    for loop in part.nodes:
        if isinstance(loop, ast.For):
            names = {n.id for n in ast.walk(loop.iter) if isinstance(n, ast.Name) and isinstance(part.up[n], ast.For)
                     or isinstance(n, ast.Name) and called_name(part.up[n]) in WALKED}
            for node in ast.walk(loop):
                changes = isinstance(node, ast.Attribute) and node.attr in CHANGING
                stores = isinstance(node, ast.Subscript) and isinstance(node.ctx, ast.Store)
                if (changes or stores) and isinstance(node.value, ast.Name) and node.value.id in names:
                    yield "L23", node


def number_faults(part):
    """L27."""
    for node in part.nodes:
        if isinstance(node, ast.BinOp) and isinstance(node.op, ast.Pow):
            if not (isinstance(node.right, ast.Constant) and 0 <= node.right.value <= 64):
                yield "L27", node
        if isinstance(node, ast.Name) and node.id == "chr":
            yield "L27", node
    for node in part.texts():
        if "%" in node.value:
            yield "L27", node
    for token in tokenize.generate_tokens(io.StringIO(part.source).readline):
        if token.type == tokenize.STRING and re.search(r"\\[^nt\\'\"]", token.string):
            yield "L27", token.start[0]
        if token.type == tokenize.NUMBER and len(token.string) > 900:
            yield "L27", token.start[0]


CHECKS = (
    import_faults, top_faults, def_faults, statement_faults, expression_faults, name_faults, size_faults, set_faults,
    keeping_faults, class_faults, error_faults, builtin_faults, walk_faults, number_faults,
)


def drawing_faults(parts):
    """L16: a name comes from the file that defines it, and no two files draw from one another."""
    by_module = {part.module: part for part in parts}
    draws = {}
    for part in parts:
        draws[part.module] = set()
        for node in part.imports:
            if node.module == "__future__":
                continue
            source = by_module.get(node.module)
            if source is None or any(alias.name not in source.bound_at_top() for alias in node.names):
                yield "L16", part.path, node.lineno
            words = (node.module or "").split(".")
            draws[part.module] |= {".".join(words[:n]) for n in range(1, len(words) + 1)}
        files = [other.module.rsplit(".", 1)[1] for other in parts if other.module.startswith(part.module + ".")]
        if set(part.bound_at_top() + part.imported()) & set(files):
            yield "L16", part.path, 1
    for part in parts:
        reached, ahead = set(), set(draws[part.module])
        while ahead:
            module = ahead.pop()
            if module not in reached:
                reached.add(module)
                ahead |= draws.get(module, set())
        if part.module in reached:
            yield "L16", part.path, 1


def member_faults(parts):
    """L18, L25 and L26, of the methods and values of the whole package."""
    methods, stored = set(), []
    for part in parts:
        for node in part.classes:
            methods |= {inner.name for inner in node.body if isinstance(inner, ast.FunctionDef)}
        stored += [(node, part) for node in part.nodes
                   if isinstance(node, ast.Attribute) and isinstance(node.ctx, ast.Store)]
    of_python = {name for kind in KINDS_OF_PYTHON for name in dir(kind)}
    for node, part in stored:
        if node.attr in methods:
            yield "L18", part.path, node.lineno
        if node.attr in of_python and node.attr not in VALUE_NAMES or node.attr in ("args", "format", "sort"):
            yield "L26", part.path, node.lineno
    for part in parts:
        for name in methods & of_python - set(METHODS) - {"add", "discard"} - set(DUNDERS):
            yield "L26", part.path, 1
        for node in part.nodes:
            if not isinstance(node, ast.Attribute):
                continue
            above = part.up[node]
            is_called = isinstance(above, ast.Call) and above.func is node
            if is_called and node.attr not in METHODS and node.attr not in methods:
                yield "L25", part.path, node.lineno
            is_key = isinstance(above, ast.keyword) and above.arg == "key"
            is_value = node.attr in [kept.attr for kept, where in stored]
            if not is_called and not is_key and not is_value and node.attr in METHODS:
                yield "L25", part.path, node.lineno


def faults_of(files):
    """All faults of a package, given as a dict from the path of a file to its text: rule, path, line."""
    found = list(file_faults(list(files)))
    parts = [Part(path, source) for path, source in files.items() if path.endswith(".py")]
    for part in parts:
        for check in CHECKS:
            for rule, where in check(part):
                found.append((rule, part.path, where if isinstance(where, int) else where.lineno))
    found += drawing_faults(parts)
    found += member_faults(parts)
    return sorted(set(found))
