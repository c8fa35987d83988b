"""Looks for code outside the rules of LANGUAGE.md, as far as a syntax tree shows it.

Each fault is told as a text that begins with the number of its rule. What needs a reader
(whether a comment says why, whether a name is plain) is not looked at.
"""

import ast
import builtins
import re

PACKAGE = "unseendials"
LIBRARY = {"heapq": {"heappush", "heappop", "heapify", "heapreplace", "heappushpop"},
           "math": {"gcd", "lcm", "isqrt", "comb", "perm", "factorial"}}
BUILTINS = set(
    "len range enumerate zip min max sum abs sorted reversed int str bool bytes list tuple dict set "
    "isinstance ord repr any all divmod map iter next super property staticmethod classmethod "
    "Exception ValueError TypeError KeyError IndexError LookupError ZeroDivisionError "
    "ArithmeticError OverflowError RuntimeError NotImplementedError AttributeError StopIteration "
    "NotImplemented".split())
METHODS = set(
    "append clear copy count endswith extend find get index insert isalnum isalpha isdigit islower "
    "isspace isupper items join keys ljust lower lstrip partition pop remove replace reverse rfind "
    "rjust rpartition rsplit rstrip setdefault split splitlines startswith strip update upper values "
    "zfill bit_length title capitalize swapcase casefold center expandtabs removeprefix removesuffix "
    "rindex isascii isdecimal isnumeric istitle isidentifier isprintable add discard".split())
OPERATORS = set(
    "__init__ __eq__ __repr__ __str__ __len__ __enter__ __exit__ __call__ __iter__ __lt__ __le__ "
    "__gt__ __ge__ __ne__ __add__ __sub__ __mul__ __floordiv__ __mod__ __pow__ __and__ __or__ "
    "__xor__ __lshift__ __rshift__ __neg__ __pos__ __invert__ __abs__ __bool__ __contains__".split())
STATEMENTS = (ast.Assign, ast.AugAssign, ast.If, ast.While, ast.For, ast.Return, ast.Break,
              ast.Continue, ast.Pass, ast.Raise, ast.Assert, ast.Delete, ast.Nonlocal, ast.With,
              ast.Try, ast.Expr, ast.FunctionDef, ast.ClassDef, ast.ImportFrom)
NO_NAMES = set(
    "register mro elements open input law version_info with_traceback add_note attrgetter breakpoint "
    "builtins compile copyright credits delattr dir eval exec exit gc getattr globals hasattr help id "
    "importlib license locals methodcaller os quit setattr type vars sys".split())
NO_WORDS = re.compile(r"\b(type|typing|typing_extensions|enum|Enum|IntEnum|StrEnum|Flag|IntFlag|"
                      r"Generic|Protocol|ABC|ABCMeta|namedtuple|NamedTuple|TypedDict|TYPE_CHECKING|"
                      r"abstractmethod)\b|dataclass|overload|contextmanager")
NO_ATTRIBUTES = set("items keys values pop update append clear extend insert remove reverse "
                    "setdefault sort args encode decode hex fromhex format format_map mro".split())
PLAIN_NAME = re.compile(r"_?[A-Za-z][A-Za-z0-9_]*\Z|_\Z")
VIEWS = {"zip", "enumerate", "reversed", "range", "items", "keys", "values"}
TAKERS = {"list", "tuple", "dict", "sorted", "sum", "any", "all", "enumerate", "zip", "min", "max"}


class Package:
    """All files of a package, by their names, and what several rules need to know of them."""

    def __init__(self, sources):
        self.sources = sources
        self.trees = {name: ast.parse(text) for name, text in sources.items()}
        nodes = [node for tree in self.trees.values() for node in ast.walk(tree)]
        self.classes = [node for node in nodes if isinstance(node, ast.ClassDef)]
        self.methods = {part.name for kind in self.classes for part in kind.body
                        if isinstance(part, ast.FunctionDef)}
        self.generators = {node.name for node in nodes if isinstance(node, ast.FunctionDef)
                           and any(isinstance(part, (ast.Yield, ast.YieldFrom))
                                   for part in ast.walk(node))}
        self.set_attributes = {node.attr for node in nodes if isinstance(node, ast.Attribute)
                               and isinstance(node.ctx, ast.Store)}
        self.class_values = {target.id for kind in self.classes for part in kind.body
                             if isinstance(part, ast.Assign) for target in part.targets}


def faults_of(sources):
    """Return the faults of a package, given as a dict from file names to texts."""
    package = Package(sources)
    faults = faults_of_imports(package) + faults_of_attributes(package)
    for name, text in sources.items():
        tree = package.trees[name]
        for parent in ast.walk(tree):
            for child in ast.iter_child_nodes(parent):
                child.parent = parent
        found = faults_of_text(name, text) + faults_of_level(tree)
        for node in ast.walk(tree):
            found.extend(faults_of_node(node, tree, package))
        faults.extend(f"{fault} ({name})" for fault in found)
    return faults


def faults_of_text(name, text):
    faults = []
    lines = text.split("\n")
    if not re.match(r"[a-z0-9_]+\.py\Z", name):
        faults.append("L14 name of the file")
    if re.search(r"[^ -~\n]", text):
        faults.append("L14 characters")
    if len(lines) > 400 or max(map(len, lines)) > 120:
        faults.append("L10 size")
    if "_wall" in text:
        faults.append("L12 barred word")
    return faults


def faults_of_level(tree):
    faults, bound = [], []
    for at, node in enumerate(tree.body):
        docstring = at == 0 and isinstance(node, ast.Expr) and isinstance(node.value, ast.Constant)
        if isinstance(node, ast.ImportFrom):
            bound.extend(alias.name for alias in node.names)
        elif isinstance(node, (ast.FunctionDef, ast.ClassDef)):
            bound.append(node.name)
        elif isinstance(node, ast.Assign) and len(node.targets) == 1 \
                and isinstance(node.targets[0], ast.Name):
            bound.append(node.targets[0].id)
        elif not docstring:
            faults.append(f"L3 line {node.lineno}")
    if len(bound) != len(set(bound)):
        faults.append("L15 bound twice")
    return faults


def faults_of_imports(package):
    faults, needs = [], {}
    for name, tree in package.trees.items():
        own = needs.setdefault(name, set())
        for node in ast.walk(tree):
            if isinstance(node, ast.Import):
                faults.append(f"L16 import ({name})")
            if not isinstance(node, ast.ImportFrom):
                continue
            if any(alias.asname for alias in node.names) or node.level:
                faults.append(f"L2 import ({name})")
            if node.module in LIBRARY:
                if not {alias.name for alias in node.names} <= LIBRARY[node.module]:
                    faults.append(f"L2 the library ({name})")
                continue
            target = str(node.module).removeprefix(PACKAGE + ".") + ".py"
            own.add(target)
            if target not in package.trees:
                faults.append(f"L2 import of {node.module} ({name})")
                continue
            defined = {part.name for part in package.trees[target].body if hasattr(part, "name")}
            defined |= {goal.id for part in package.trees[target].body
                        if isinstance(part, ast.Assign) for goal in part.targets}
            faults.extend(f"L16 {alias.name} is defined elsewhere ({name})"
                          for alias in node.names if alias.name not in defined)
    while True:
        free = [name for name, own in needs.items() if not own & set(needs)]
        if not free:
            break
        for name in free:
            del needs[name]
    return faults + [f"L16 circle ({name})" for name in needs]


def faults_of_attributes(package):
    faults = []
    for kind in package.classes:
        own = {part.name for part in kind.body if isinstance(part, ast.FunctionDef)}
        stored = {node.attr for node in ast.walk(kind) if isinstance(node, ast.Attribute)
                  and isinstance(node.ctx, ast.Store)}
        faults.extend(f"L18 {name} is a method and an attribute" for name in own & stored)
        faults.extend(f"L26 attribute {name}" for name in stored & NO_ATTRIBUTES)
        names = [part.name for part in kind.body if isinstance(part, ast.FunctionDef)
                 and not is_setter(part)]
        if len(names) != len(set(names)):
            faults.append(f"L18 a method of {kind.name} stands twice")
    return faults


def is_setter(node):
    """Return whether a method is the setter of a property, which stands as name.setter over it."""
    names = [ast.unparse(decorator) for decorator in node.decorator_list]
    return names == [node.name + ".setter"] and len(node.args.args) == 2


def faults_of_node(node, tree, package):
    checks = [check_statement, check_expression, check_names, check_calls, check_views, check_sets,
              check_changes]
    faults = [fault for check in checks for fault in check(node, package)]
    if isinstance(node, ast.FunctionDef):
        faults.extend(check_function(node, tree))
    if isinstance(node, ast.ClassDef):
        faults.extend(check_class(node))
    return [f"{fault}, line {getattr(node, 'lineno', 0)}" for fault in faults]


def check_statement(node, package):
    if isinstance(node, ast.stmt) and not isinstance(node, STATEMENTS):
        yield "L6 statement"
    if isinstance(node, ast.ClassDef) and node.decorator_list:
        yield "L5 decorator"
    if isinstance(node, ast.Raise) and node.exc is not None \
            and not (isinstance(node.exc, ast.Call) and isinstance(node.exc.func, ast.Name)):
        yield "L19 raise"
    if isinstance(node, ast.Try):
        yield "L19 try: look at it, and let this test allow it"


def check_expression(node, package):
    if isinstance(node, ast.Constant) and isinstance(node.value, (float, complex)):
        yield "L7 float"
    if isinstance(node, (ast.Div, ast.MatMult)):
        yield "L7 operator"
    if isinstance(node, ast.GeneratorExp):
        yield "L7 generator expression beside __eq__"
    if isinstance(node, (ast.Await, ast.Lambda)):
        yield "L7 look at it, and let this test allow it"
    if isinstance(node, ast.BinOp) and isinstance(node.op, ast.Pow):
        yield "L27 power"
    if isinstance(node, ast.Constant) and isinstance(node.value, str):
        if "%" in node.value or re.search(r"\._+\Z|^__.*__$", node.value):
            yield "L27 string"
        if NO_WORDS.search(node.value) and not isinstance(node.parent, ast.Expr):
            yield "L17 string"
    if isinstance(node, ast.Compare):
        for sign, other in zip(node.ops, node.comparators):
            if isinstance(sign, (ast.Is, ast.IsNot)) and not (
                    isinstance(other, ast.Constant) and other.value in (None, True, False)):
                yield "L20 is"


def check_names(node, package):
    names = []
    if isinstance(node, ast.Name):
        if node.id in dir(builtins) and node.id not in BUILTINS:
            yield f"L8 {node.id}"
        if isinstance(node.ctx, ast.Store):
            names.append(node.id)
        elif node.id == "_":
            yield "L12 _ is read"
    if isinstance(node, ast.arg):
        names.append(node.arg)
    if isinstance(node, (ast.FunctionDef, ast.ClassDef)) and not node.name.startswith("__"):
        method = isinstance(node.parent, ast.ClassDef)
        if not method:
            names.append(node.name)
        elif node.name in dir(str) + dir(int) + dir(list) + dir(dict) + dir(set) + dir(bytes):
            yield f"L26 method {node.name}"
    for name in names:
        if not PLAIN_NAME.match(name) or name in NO_NAMES or name in dir(builtins) or \
                NO_WORDS.search(name):
            yield f"L12, L15 or L17: {name}"


def check_calls(node, package):
    if isinstance(node, ast.Attribute) and isinstance(node.ctx, ast.Load):
        called = isinstance(node.parent, ast.Call) and node.parent.func is node
        if called and node.attr not in package.methods | METHODS | {"__init__"}:
            yield f"L25 method {node.attr}"
        setter = node.attr == "setter" and node in getattr(node.parent, "decorator_list", [])
        if not called and not setter \
                and node.attr not in package.set_attributes | package.methods | package.class_values:
            yield f"L18 attribute {node.attr}"
    if not isinstance(node, ast.Call):
        return
    name = node.func.id if isinstance(node.func, ast.Name) else getattr(node.func, "attr", "")
    if name in package.generators:
        yield "L23 call of a generator: look at it, and let this test allow it"
    if isinstance(node.func, ast.Constant):
        yield "L7 call of a literal"
    allowed = {"sorted": {"key", "reverse"}, "min": {"key", "default"}, "max": {"key", "default"},
               "sum": {"start"}, "enumerate": {"start"}, "zip": {"strict"}}
    if name in BUILTINS and not {word.arg for word in node.keywords} <= allowed.get(name, set()):
        yield "L22 keyword of a builtin"
    if name == "join" and not isinstance(node.func.value, ast.Constant):
        yield "L23 join"


def check_views(node, package):
    name = ""
    if isinstance(node, ast.Call):
        name = node.func.id if isinstance(node.func, ast.Name) else getattr(node.func, "attr", "")
    if name not in VIEWS:
        return
    parent = node.parent
    looped = isinstance(parent, (ast.For, ast.comprehension)) and parent.iter is node
    taken = isinstance(parent, ast.Call) and isinstance(parent.func, ast.Name) \
        and parent.func.id in TAKERS and parent.args[0] is node
    asked = isinstance(parent, ast.Compare) and name in ("range", "keys")
    if not looped and not taken and not asked:
        yield f"L23 {name}"


def check_sets(node, package):
    is_set = isinstance(node, (ast.SetComp, ast.Set)) or (
        isinstance(node, ast.Call) and isinstance(node.func, ast.Name) and node.func.id == "set")
    if not is_set:
        return
    parent = node.parent
    taken = isinstance(parent, ast.Call) and isinstance(parent.func, ast.Name) \
        and parent.func.id in ("sorted", "len") and not parent.keywords
    if not taken and not isinstance(parent, ast.Compare):
        yield "L24 set"


def check_changes(node, package):
    """Look for `extend`, `update`, `+=` and `|=` that get what they change, or a part of it.

    A syntax tree does not tell whether an item is a list or a number, so each item counts.
    """
    if isinstance(node, ast.AugAssign) and isinstance(node.op, (ast.Add, ast.BitOr)):
        changed, got = node.target, [node.value]
    elif isinstance(node, ast.Call) and isinstance(node.func, ast.Attribute) \
            and node.func.attr in ("extend", "update"):
        changed, got = node.func.value, node.args
    else:
        return
    if wholes_of(changed) & {whole for value in got for whole in wholes_of(value)}:
        yield "L23 gets what it changes"


def wholes_of(node):
    """Return the texts of what an expression is, or is an item of, one for each of its choices."""
    if isinstance(node, ast.Subscript):
        return wholes_of(node.value)
    if isinstance(node, ast.IfExp):
        return wholes_of(node.body) | wholes_of(node.orelse)
    if isinstance(node, ast.BoolOp):
        return {whole for value in node.values for whole in wholes_of(value)}
    return {ast.unparse(node)}


def check_function(node, tree):
    if node.end_lineno - node.lineno + 1 > 40:
        yield "L10 length of a function"
    for decorator in node.decorator_list:
        plain = isinstance(decorator, ast.Name) and isinstance(node.parent, ast.ClassDef) \
            and decorator.id in ("property", "staticmethod", "classmethod")
        if not plain and not is_setter(node):
            yield "L4 decorator"
    taken = {alias.name for part in tree.body if isinstance(part, ast.ImportFrom)
             for alias in part.names}
    taken |= {part.name for part in tree.body if isinstance(part, ast.ClassDef)}
    local = {part.id for part in ast.walk(node) if isinstance(part, ast.Name)
             and isinstance(part.ctx, ast.Store)} | {
                 part.arg for part in ast.walk(node) if isinstance(part, ast.arg)}
    for name in sorted(local & taken):
        yield f"L15 {name} is a class or an import"
    defaults = node.args.defaults + [part for part in node.args.kw_defaults if part is not None]
    for default in defaults:
        if not isinstance(default, (ast.Constant, ast.UnaryOp)) and ast.unparse(default) != "()":
            yield "L4 default value"


def check_class(node):
    for part in node.body:
        if not isinstance(part, ast.FunctionDef):
            plain = isinstance(part, ast.Assign) and isinstance(part.value, ast.Constant)
            docstring = isinstance(part, ast.Expr) and isinstance(part.value, ast.Constant)
            if not plain and not docstring:
                yield "L5 body of a class"
            continue
        if part.name.startswith("__") and part.name not in OPERATORS:
            yield f"L5 method {part.name}"
        yield from check_double(part)


def check_double(node):
    changes = (ast.Assign, ast.AugAssign, ast.Delete, ast.For, ast.While, ast.NamedExpr)
    inner = list(ast.walk(node))[1:]
    if node.name in ("__eq__", "__len__", "__repr__", "__str__", "__contains__", "__iter__"):
        if any(isinstance(part, changes) for part in inner):
            yield f"L28 {node.name}"
    if node.name in ("__len__", "__iter__"):
        name = "len" if node.name == "__len__" else "iter"
        last = node.body[-1]
        if len(node.body) != 1 or not isinstance(last, ast.Return) \
                or not re.fullmatch(name + r"\(self\.\w+\)", ast.unparse(last.value)):
            yield f"L28 or L5 {node.name}"
    if node.name == "__init__" and any(isinstance(part, ast.Return) for part in inner):
        yield "L28 __init__"
