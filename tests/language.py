"""Tells where source files leave the language of LANGUAGE.md, as far as their text alone shows it.

faults({"core.py": text, ..}) answers a list of texts "L6 core.py:12 ..". Where a rule can be read in
two ways the stricter one is taken, so a fault here may be milder elsewhere, but not the other way.
"""

import ast
import builtins
import re
import types

PACKAGE = "sixteenbit"

FUNCTIONS = set("""len range enumerate zip min max sum abs sorted reversed int str bool list tuple dict set
frozenset isinstance ord repr any all divmod""".split())  # chr is out by L27
ERRORS = set("""Exception ValueError TypeError KeyError IndexError LookupError ZeroDivisionError ArithmeticError
OverflowError RuntimeError NotImplementedError AttributeError StopIteration""".split())
BUILTINS = set(dir(builtins))
DUNDER_METHODS = {"__init__", "__eq__", "__repr__", "__str__", "__len__"}
QUIET_METHODS = DUNDER_METHODS - {"__init__"}
METHODS = set("""append clear copy count endswith extend find get index insert isalnum isalpha isdigit islower
isspace isupper items join keys ljust lower lstrip partition pop remove replace reverse rfind rjust rpartition
rsplit rstrip setdefault split splitlines startswith strip update upper values zfill bit_length""".split())
CHANGES = set("append clear extend insert pop remove reverse setdefault update".split())
READS = set("get items keys values index count copy".split())
READERS = FUNCTIONS - {"isinstance", "int", "str", "bool", "abs", "ord", "repr", "divmod", "range"}
VALUE_NAMES = set("count index title find get join lower upper split strip copy add".split())
BARRED_VALUES = set("""items keys values pop update append clear extend insert remove reverse setdefault sort args
encode format""".split())
PYTHONS_OWN = set().union(*(dir(kind) for kind in (str, int, list, tuple, dict, set, frozenset, bytes, bool)))
NEVER = set("register mro elements open input version_info with_traceback add_note format format_map".split())
FRAME_KINDS = (types.FrameType, types.TracebackType, types.CodeType, types.GeneratorType, types.CoroutineType,
               types.AsyncGeneratorType)
FRAME_NAMES = {name for kind in FRAME_KINDS for name in dir(kind) if re.match(r"(f|tb|co|gi|cr|ag)_", name)}
NOT_AS_NAMES = set("""attrgetter breakpoint builtins compile copyright credits delattr dir eval exec exit gc getattr
globals hasattr help id importlib license locals methodcaller os quit setattr super type vars""".split())
WORDS = """type typing typing_extensions enum Enum IntEnum StrEnum Flag IntFlag Generic Protocol ABC ABCMeta
namedtuple NamedTuple TypedDict TYPE_CHECKING abstractmethod""".split()
BARRED_WORD = re.compile(r"(?<!\w)(" + "|".join(WORDS) + r")(?!\w)|dataclass|overload|contextmanager")
BARRED_FILES = {"test", "tests", "testing", "site", "conftest", "sitecustomize", "usercustomize"} | set(WORDS)
PLAIN_NAME = re.compile(r"[A-Za-z][A-Za-z0-9_]*$", re.ASCII)
KEYWORDS = {"sorted": {"key", "reverse"}, "min": {"key", "default"}, "max": {"key", "default"},
            "sum": {"start"}, "enumerate": {"start"}, "zip": {"strict"}}
KEY_FUNCTIONS = {"len", "int", "str", "abs", "sum", "min", "max", "tuple"}
WALKS = {"zip", "enumerate", "reversed", "range"}
WALKED_IN = {"list", "tuple", "dict", "sorted", "sum", "any", "all", "enumerate", "zip"}
STATEMENTS = (ast.FunctionDef, ast.ClassDef, ast.Assign, ast.AugAssign, ast.AnnAssign, ast.If, ast.While, ast.For,
              ast.Return, ast.Break, ast.Continue, ast.Pass, ast.Raise, ast.Try, ast.Expr, ast.Import, ast.ImportFrom)
EXPRESSIONS = (ast.Constant, ast.List, ast.Tuple, ast.Dict, ast.Set, ast.BinOp, ast.UnaryOp, ast.Compare, ast.BoolOp,
               ast.IfExp, ast.Call, ast.Attribute, ast.Subscript, ast.Slice, ast.ListComp, ast.JoinedStr,
               ast.FormattedValue, ast.Lambda, ast.Name)
DEFS = (ast.FunctionDef, ast.Lambda)


class File:
    def __init__(self, path, text):
        self.path, self.text, self.tree = path, text, ast.parse(text)
        self.is_main = path == "__main__.py"
        parts = [PACKAGE] + path[:-3].split("/")
        self.module = ".".join(parts[:-1] if parts[-1] == "__init__" else parts)
        self.nodes = list(ast.walk(self.tree))
        for node in self.nodes:
            for child in ast.iter_child_nodes(node):
                child.parent = node
        self.defined = [name for row in self.tree.body for name in bound_by_row(row)]
        self.imports = [row for row in self.tree.body if isinstance(row, ast.ImportFrom)]
        self.imported = [a.asname or a.name for row in self.imports for a in row.names]
        self.containers = {row.targets[0].id for row in self.tree.body if isinstance(row, ast.Assign)
                           and isinstance(row.targets[0], ast.Name) and isinstance(row.value, (ast.List, ast.Dict))}

    def of(self, *kinds):
        return [node for node in self.nodes if isinstance(node, kinds)]


class Package:
    def __init__(self, files):
        self.files = files
        self.modules = {f.module: f for f in files}
        classes = [c for f in files for c in f.of(ast.ClassDef)]
        self.classes = {c.name: c for c in classes}
        self.methods = {m.name for c in classes for m in c.body if isinstance(m, ast.FunctionDef)}
        self.values = {n.attr for f in files for n in f.of(ast.Attribute) if isinstance(n.ctx, ast.Store)}

    def is_error(self, name):
        seen = set()
        while name in self.classes and name not in seen:
            seen.add(name)
            bases = self.classes[name].bases
            name = bases[0].id if bases and isinstance(bases[0], ast.Name) else ""
        return name in ERRORS


def bound_by_row(row):
    if isinstance(row, (ast.FunctionDef, ast.ClassDef)):
        return [row.name]
    if isinstance(row, ast.Assign):
        return [n.id for target in row.targets for n in ast.walk(target) if isinstance(n, ast.Name)]
    if isinstance(row, ast.AnnAssign) and isinstance(row.target, ast.Name):
        return [row.target.id]
    return []


def within(node, *kinds):
    while hasattr(node, "parent"):
        node = node.parent
        if isinstance(node, kinds):
            return node
    return None


def is_call_of(node, names):
    return isinstance(node, ast.Call) and isinstance(node.func, ast.Name) and node.func.id in names


def is_method_call(node, names):
    return isinstance(node, ast.Call) and isinstance(node.func, ast.Attribute) and node.func.attr in names


def is_text(node):
    return isinstance(node, ast.Constant) and isinstance(node.value, str)


def is_number(node):
    return isinstance(node, ast.Constant) and type(node.value) is int


def parameters(node):
    return node.args.posonlyargs + node.args.args + node.args.kwonlyargs


def is_plain(node, functions):
    if isinstance(node, ast.UnaryOp) and isinstance(node.op, ast.USub):
        return is_number(node.operand)
    if isinstance(node, (ast.List, ast.Tuple)):
        return all(is_plain(n, functions) for n in node.elts)
    if isinstance(node, ast.Dict):
        return all(n is not None and is_plain(n, functions) for n in node.keys + node.values)
    return isinstance(node, ast.Constant) or isinstance(node, ast.Name) and node.id in functions


def file_names(package):  # L1, L14
    for f in package.files:
        for part in f.path[:-3].split("/"):
            if part in ("__init__", "__main__") and f.path.endswith(part + ".py"):
                continue
            if not re.fullmatch(r"[a-z][a-z0-9_]*", part):
                yield "L1", f, 1, "not a plain lower-case name"
            if part in BARRED_FILES or part in BUILTINS or part in ("property", "filter") or part.startswith("test_"):
                yield "L14", f, 1, "a file or folder may not be called so"
        folder = f.path.rpartition("/")[0]
        if (folder + "/__init__.py").lstrip("/") not in [other.path for other in package.files]:
            yield "L14", f, 1, "no __init__.py in its folder"
        if f.path.endswith("/__main__.py"):
            yield "L14", f, 1, "__main__.py stands at the package's top alone"


def signs_and_sizes(package):  # L10, L14, L17's words
    for f in package.files:
        lines = f.text.split("\n")
        if len(f.text.splitlines()) > 400:
            yield "L10", f, 400, "more than 400 lines"
        for k, line in enumerate(lines, 1):
            if len(line) > 120 or "\t" in line:
                yield "L10", f, k, "a long line or a tab"
            if re.search(r"[^ -~]", line):
                yield "L14", f, k, "a sign that is not one from the blank to ~"
            if BARRED_WORD.search(line):
                yield "L17", f, k, "a word that stands nowhere"
        for node in f.of(ast.FunctionDef):
            if node.end_lineno - node.lineno + 1 > 40:
                yield "L10", f, node, "a function of more than 40 lines"


def imports(package):  # L2, L16
    for f in package.files:
        ahead = True
        for row in f.tree.body:
            is_import = isinstance(row, (ast.Import, ast.ImportFrom))
            if is_import and not ahead:
                yield "L2", f, row, "an import that is not at the top"
            ahead = is_import or ahead and isinstance(row, ast.Expr)
        for row in f.of(ast.Import, ast.ImportFrom):
            if row.parent is not f.tree:
                yield "L2", f, row, "an import within something"
            yield from import_row(package, f, row)
    yield from import_circles(package)


def import_row(package, f, row):
    if isinstance(row, ast.Import):
        if not (f.is_main and [(a.name, a.asname) for a in row.names] == [("sys", None)]):
            yield "L2", f, row, "only the package's own modules are imported, by from"
    elif row.level == 0 and row.module == "__future__":
        if [a.name for a in row.names] != ["annotations"]:
            yield "L2", f, row, "only annotations from __future__"
    elif row.level or row.module not in package.modules or row.module == PACKAGE + ".__main__":
        yield "L2", f, row, "not a module of the package by its full name"
    else:
        for a in row.names:
            if a.name == "*":
                yield "L2", f, row, "import *"
            elif a.name not in package.modules[row.module].defined:
                yield "L16", f, row, f"{a.name} is not defined in that file"


def drawn_from(package, f):
    for row in f.imports:
        parts = (row.module or "").split(".")
        for k in range(1, len(parts) + 1):
            module = ".".join(parts[:k])
            if module in package.modules:
                yield module


def import_circles(package):
    for start in package.files:
        reached, ahead = set(), list(drawn_from(package, start))
        while ahead:
            module = ahead.pop()
            if module not in reached:
                reached.add(module)
                ahead += drawn_from(package, package.modules[module])
        if start.module in reached:
            yield "L16", start, 1, "files draw from one another"
        if start.path.endswith("__init__.py"):
            below = {m[len(start.module) + 1:] for m in package.modules if m.startswith(start.module + ".")}
            if below & set(start.defined + start.imported):
                yield "L16", start, 1, "__init__.py binds a name that one of its files has"


def tops(package):  # L3, L15
    for f in package.files:
        functions, seen = [], set()
        for k, row in enumerate(f.tree.body):
            yield from top_row(f, k, row, functions)
            if isinstance(row, ast.FunctionDef):
                functions.append(row.name)
        for name in f.defined + f.imported:
            if name in seen:
                yield "L15", f, 1, f"{name} is bound twice at the file's top"
            seen.add(name)
        for node in f.of(ast.ClassDef):
            if node.parent is not f.tree:
                yield "L15", f, node, "a class that is not at the file's top"
        yield from kept_at_top(package, f)


def top_row(f, k, row, functions):
    if isinstance(row, (ast.FunctionDef, ast.ClassDef, ast.Import, ast.ImportFrom)):
        return
    if isinstance(row, ast.Expr) and k == 0 and is_text(row.value):
        return
    if isinstance(row, ast.If) and f.is_main and ast.unparse(row.test) == "__name__ == '__main__'" and not row.orelse:
        return
    if not (isinstance(row, ast.Assign) and isinstance(row.targets[0], ast.Name) and is_plain(row.value, functions)):
        yield "L3", f, row, "not a thing for a file's top"
    elif isinstance(row.value, (ast.List, ast.Dict, ast.Tuple)):
        for inner in ast.walk(row.value):
            if inner is not row.value and isinstance(inner, (ast.List, ast.Dict)):
                yield "L15", f, row, "a list or dict within one of a file's top"


def kept_at_top(package, f):
    shared = set(f.containers)
    for row in f.imports:
        source = package.modules.get(row.module)
        shared |= {a.asname or a.name for a in row.names if source and a.name in source.containers}
    for node in f.of(ast.Name):
        if node.id in shared and within(node, *DEFS) and not only_read(node):
            yield "L15", f, node, f"{node.id} of a file's top is not only read"


def only_read(node):
    up = node.parent
    if isinstance(up, ast.Subscript):
        return up.value is node and isinstance(up.ctx, ast.Load)
    if isinstance(up, (ast.For, ast.comprehension)):
        return up.iter is node
    if isinstance(up, ast.Attribute):
        return up.attr in READS and isinstance(up.parent, ast.Call) and up.parent.func is up
    return isinstance(up, ast.Compare) or is_call_of(up, READERS)


def functions(package):  # L4, L21
    for f in package.files:
        for node in f.of(*DEFS):
            a = node.args
            if a.vararg or a.kwarg or a.kwonlyargs or a.posonlyargs or getattr(node, "decorator_list", []):
                yield "L4", f, node, "not plain parameters, or a decorator"
            if getattr(node, "type_params", []):
                yield "L4", f, node, "parameters of kinds"
            if not all(is_plain(d, []) for d in a.defaults):
                yield "L4", f, node, "a default that is not a plain value"
            if getattr(node, "returns", None) or any(p.annotation for p in parameters(node)):
                yield "L21", f, node, "an annotation"
            outer = within(node, ast.FunctionDef)
            if outer and set(locals_of(node)) & set(locals_of(outer) + [p.arg for p in parameters(outer)]):
                yield "L4", f, node, "assigns a name of the function around it"
        for node in f.of(ast.AnnAssign):
            yield "L21", f, node, "an annotation"


def locals_of(function):
    return [n.id for n in ast.walk(function) if isinstance(n, ast.Name) and isinstance(n.ctx, ast.Store)
            and within(n, *DEFS) is function]


def classes(package):  # L5, L18, L26
    for f in package.files:
        for node in f.of(ast.ClassDef):
            if node.keywords or node.decorator_list or len(node.bases) > 1 or getattr(node, "type_params", []):
                yield "L5", f, node, "not a plain class"
            yield from class_base(package, f, node)
            yield from class_body(package, f, node)
        for node in f.of(ast.Attribute):
            if isinstance(node.ctx, ast.Store):
                yield from own_value(package, f, node)


def class_base(package, f, node):
    for base in node.bases:
        name = base.id if isinstance(base, ast.Name) else ""
        if name not in package.classes and name not in ERRORS:
            yield "L5", f, node, "its base is no class of the package and no error class"
        if name in ("StopIteration", "AttributeError"):
            yield "L18", f, node, "an error class may not stand under that one"


def class_body(package, f, node):
    names = []
    for row in node.body:
        if isinstance(row, ast.FunctionDef):
            names.append(row.name)
        elif not isinstance(row, ast.Pass):
            yield "L5", f, row, "a class body has methods alone"
    for name in names:
        if names.count(name) > 1:
            yield "L18", f, node, f"the method {name} stands twice"
        if name in package.values:
            yield "L18", f, node, f"{name} is a method here and a value elsewhere"
        if name in PYTHONS_OWN and name not in METHODS | DUNDER_METHODS | {"add", "discard"}:
            yield "L26", f, node, f"a method may not be called {name}"


def own_value(package, f, node):
    if node.attr in BARRED_VALUES or node.attr in PYTHONS_OWN and node.attr not in VALUE_NAMES:
        yield "L26", f, node, f"a value may not be called {node.attr}"
    root = node.value
    while isinstance(root, (ast.Attribute, ast.Subscript)):
        root = root.value
    if not isinstance(root, ast.Name) or root.id in f.defined + f.imported:
        yield "L18", f, node, "a value is given through a local name"


def statements(package):  # L6
    for f in package.files:
        for node in f.of(ast.stmt):
            if not isinstance(node, STATEMENTS):
                yield "L6", f, node, "a statement that is not in the list"
            if isinstance(node, ast.Expr) and not isinstance(node.value, ast.Call):
                if not (node.parent is f.tree and is_text(node.value)):
                    yield "L6", f, node, "an expression by itself that is no call"
            if isinstance(node, ast.Assign):
                if len(node.targets) > 1 or not isinstance(node.targets[0], (ast.Name, ast.Attribute, ast.Subscript)):
                    yield "L6", f, node, "more than one target"
            if isinstance(node, (ast.For, ast.While)) and node.orelse or isinstance(node, ast.Try) and node.finalbody:
                yield "L6", f, node, "an else behind a loop, or a finally"
            if isinstance(node, ast.Try) and any(h.type is None for h in node.handlers):
                yield "L6", f, node, "an except that names no error"


def expressions(package):  # L7, L13, L20, L27
    for f in package.files:
        for node in f.of(ast.expr):
            if not isinstance(node, EXPRESSIONS):
                yield "L7", f, node, "an expression that is not in the list"
        for node in f.of(ast.BinOp, ast.AugAssign):
            if isinstance(node.op, (ast.Div, ast.MatMult)):
                yield "L7", f, node, "an operator that is not in the list"
            power = node.right if isinstance(node, ast.BinOp) else node.value
            if isinstance(node.op, ast.Pow) and not (is_number(power) and power.value <= 64):
                yield "L27", f, node, "an exponent that is not written, or above 64"
        for node in f.of(ast.Constant):
            yield from constant(f, node)
        for node in f.of(ast.ListComp):
            if len(node.generators) > 1 or len(node.generators[0].ifs) > 1:
                yield "L7", f, node, "a comprehension with more than one for or if"
        for node in f.of(ast.Dict):
            if None in node.keys:
                yield "L7", f, node, "a star in a dict"
        for node in f.of(ast.FormattedValue):
            if not isinstance(node.value, ast.Name) or node.conversion not in (-1, ord("r")) or node.format_spec:
                yield "L7", f, node, "braces with more than a name"
        yield from small_forms(f)


def constant(f, node):
    if node.value is not None and type(node.value) not in (int, str, bool):
        yield "L7", f, node, "a value that is not in the list"
    segment = ast.get_source_segment(f.text, node) or ""
    if is_number(node) and len(segment) > 900:
        yield "L27", f, node, "a long number"
    if is_text(node):
        outer = node.parent if isinstance(node.parent, ast.JoinedStr) else node
        segment = ast.get_source_segment(f.text, outer) or ""
        if "%" in node.value:
            yield "L27", f, node, "the sign % within a text"
        if re.search(r"\\[^nt\\'\"]", re.sub(r"\\\\", "", segment), re.DOTALL):
            yield "L27", f, node, "an escape that is not in the list"


def small_forms(f):
    for node in f.of(ast.Compare):
        sides = [node.left] + node.comparators
        for k, op in enumerate(node.ops):
            beside = [s for s in sides[k:k + 2] if isinstance(s, ast.Constant) and s.value in (None, True, False)
                      and not is_number(s)]
            if isinstance(op, (ast.Is, ast.IsNot)) and not beside:
                yield "L20", f, node, "is beside something else than None, True, False"
    for node in f.of(ast.Set):
        if not within(node, *DEFS):
            yield "L7", f, node, "a set outside of a function"
        asked = isinstance(node.parent, ast.Compare) and isinstance(node.parent.ops[0], (ast.In, ast.NotIn))
        if len([e for e in node.elts if is_number(e)]) > 2 and not asked:
            yield "L13", f, node, "a set of numbers that is written out"
    seen = set()
    for node in f.of(ast.Lambda):
        key = (node.lineno, ast.unparse(node.args))
        if key in seen:
            yield "L13", f, node, "two lambdas with the same parameters on one line"
        seen.add(key)


def bound_names(f):
    for node in f.nodes:
        if isinstance(node, ast.Name) and isinstance(node.ctx, ast.Store):
            yield node, node.id
        elif isinstance(node, ast.arg):
            yield node, node.arg
        elif isinstance(node, ast.ExceptHandler) and node.name:
            yield node, node.name
        elif isinstance(node, ast.alias) and node.name != "annotations":
            yield node, node.asname or node.name
        elif isinstance(node, (ast.FunctionDef, ast.ClassDef)) and not isinstance(node.parent, ast.ClassDef):
            yield node, node.name


def all_names(f):
    yield from bound_names(f)
    for node in f.of(ast.Name, ast.Attribute):
        yield node, node.id if isinstance(node, ast.Name) else node.attr
    for node in f.of(ast.FunctionDef):
        yield node, node.name


def names(package):  # L8, L12, L15, L17
    for f in package.files:
        for node, name in all_names(f):
            yield from one_name(f, node, name)
        bound = {name for node, name in bound_names(f)}
        class_like = {c.name for c in f.of(ast.ClassDef)} | set(f.imported)
        for node, name in bound_names(f):
            if name in BUILTINS:
                yield "L15", f, node, f"{name} is a name of Python's own"
            if name in class_like and within(node, *DEFS):
                yield "L15", f, node, f"{name} is a class or an import of the file"
        allowed = FUNCTIONS | ERRORS | ({"print"} if f.is_main else set())
        for node in f.of(ast.Name):
            if node.id in BUILTINS and node.id not in bound | allowed and node.id != "__name__":
                yield "L8", f, node, f"{node.id} is not in the list"


def one_name(f, node, name):
    is_attribute = isinstance(node, ast.Attribute)
    if name.startswith("__"):
        is_method = isinstance(node, ast.FunctionDef) and isinstance(node.parent, ast.ClassDef)
        fine = {"__all__", "__version__"} | ({"__name__"} if f.is_main else set())
        if not (name in DUNDER_METHODS if is_method or is_attribute else name in fine):
            yield "L8", f, node, f"the name {name}"
    elif not PLAIN_NAME.match(name):
        yield "L12", f, node, f"the name {name}"
    if name in NEVER or name in FRAME_NAMES:
        yield "L17", f, node, f"the name {name}"
    if not is_attribute and (name in NOT_AS_NAMES or name == "sys" and not f.is_main):
        yield "L17", f, node, f"the name {name}"


def uses(package):  # L18, L22, L25
    for f in package.files:
        defs = {n.name for n in f.of(ast.FunctionDef)} | set(f.imported)
        for node in f.of(ast.Name):
            if isinstance(node.ctx, ast.Load):
                if node.id in package.classes or node.id in ERRORS:
                    if not class_is_used_well(node):
                        yield "L18", f, node, f"the class {node.id} as a value"
                elif node.id in FUNCTIONS and not function_is_used_well(node):
                    yield "L22", f, node, f"{node.id} kept as a value"
        for node in f.of(ast.Attribute):
            yield from attribute(package, f, node)
        for node in f.of(ast.Call):
            yield from call(package, f, node, defs)


def class_is_used_well(node):
    up = node.parent
    if isinstance(up, ast.Tuple):
        node, up = up, up.parent
    if isinstance(up, ast.Call):
        return up.func is node or is_call_of(up, {"isinstance"}) and up.args[1:] == [node]
    if isinstance(up, ast.Attribute):
        return up.attr == "__init__"
    return isinstance(up, (ast.ClassDef, ast.ExceptHandler))


def function_is_used_well(node):
    up = node.parent
    if isinstance(up, ast.Call) and up.func is node:
        return True
    if isinstance(up, ast.keyword):
        return up.arg == "key" and node.id in KEY_FUNCTIONS
    if isinstance(up, ast.Tuple):
        node, up = up, up.parent
    return is_call_of(up, {"isinstance"}) and up.args[1:] == [node]


def attribute(package, f, node):
    up = node.parent
    called = isinstance(up, ast.Call) and up.func is node
    as_key = isinstance(up, ast.keyword) and up.arg == "key"
    on_sys = f.is_main and ast.unparse(node).startswith("sys.")
    if called or as_key:
        if node.attr not in METHODS | package.methods | {"__init__"} and not on_sys:
            yield "L25", f, node, f"the method {node.attr}"
    elif node.attr not in package.values and not on_sys:
        yield "L25", f, node, f"{node.attr} is no value of an object, and is not called"


def call(package, f, node, defs):
    keywords = {k.arg for k in node.keywords}
    name = node.func.id if isinstance(node.func, ast.Name) else ""
    method = node.func.attr if isinstance(node.func, ast.Attribute) else ""
    if None in keywords or any(isinstance(a, ast.Starred) for a in node.args):
        yield "L7", f, node, "a star in a call"
    if (name in FUNCTIONS or name in ERRORS or package.is_error(name)) and keywords - KEYWORDS.get(name, set()):
        yield "L22", f, node, "a keyword that is not in the list"
    if method in METHODS and keywords:
        yield "L22", f, node, "a keyword at a method of Python's own"
    for k in node.keywords:
        if k.arg in ("reverse", "strict") and name in KEYWORDS:
            if not (isinstance(k.value, ast.Constant) and isinstance(k.value.value, bool)):
                yield "L22", f, node, f"{k.arg} without a written True or False"
        if k.arg == "key" and name in KEYWORDS and not isinstance(k.value, (ast.Lambda, ast.Attribute)):
            if not (isinstance(k.value, ast.Name) and k.value.id in KEY_FUNCTIONS | defs):
                yield "L22", f, node, "key is no def, lambda or method"
    if name == "isinstance" and not isinstance_is_plain(package, node):
        yield "L22", f, node, "isinstance of another form"


def isinstance_is_plain(package, node):
    if len(node.args) != 2:
        return False
    kinds = node.args[1].elts if isinstance(node.args[1], ast.Tuple) else [node.args[1]]
    fine = {"int", "str", "bool", "list", "tuple", "dict"} | ERRORS | set(package.classes)
    return all(isinstance(k, ast.Name) and k.id in fine for k in kinds)


def errors(package):  # L19
    has_quiet = package.methods & QUIET_METHODS
    for f in package.files:
        for node in f.of(ast.Raise):
            if not isinstance(node.exc, ast.Call):
                yield "L19", f, node, "raise makes its error on the spot"
            handler = within(node, ast.ExceptHandler)
            if node.cause and not (isinstance(node.cause, ast.Constant) and node.cause.value is None):
                if not (handler and isinstance(node.cause, ast.Name) and node.cause.id == handler.name):
                    yield "L19", f, node, "raise from something else than the handler's own error"
        for node in f.of(ast.Try):
            for handler in node.handlers:
                yield from one_handler(package, f, node, handler, has_quiet)


def one_handler(package, f, node, handler, has_quiet):
    kinds = handler.type.elts if isinstance(handler.type, ast.Tuple) else [handler.type]
    taken = {k.id if isinstance(k, ast.Name) else "" for k in kinds}
    free = {"KeyError", "ZeroDivisionError", "StopIteration"}
    narrow = taken & {"ValueError", "LookupError", "IndexError"}
    for name in taken - free - narrow:
        if name not in package.classes or not package.is_error(name):
            yield "L19", f, handler, f"except {name}"
    if not narrow:
        return
    inner = [n for row in node.body for n in ast.walk(row)]
    calls = [n for n in inner if isinstance(n, ast.Call)]
    around = [n for n in calls if is_call_of(n, {"int", "str"}) or is_method_call(n, {"index", "remove"})]
    if narrow == {"IndexError"}:
        fits = not calls and any(isinstance(n, ast.Subscript) for n in inner)
    else:
        fits = calls and len(around) == len(calls)
    barred = (ast.JoinedStr, ast.Mult, ast.Pow, ast.Mod, ast.LShift, ast.RShift, ast.Slice, ast.Lambda)
    if has_quiet:
        barred += (ast.Compare, ast.BoolOp, ast.Not, ast.IfExp, ast.If, ast.While)
        fits = fits and not any(is_call_of(n, {"str"}) for n in calls)
    if not fits or len(node.body) > 1 or any(isinstance(n, barred) for n in inner):
        yield "L19", f, handler, "round more than it may be taken round"


def walks(package):  # L23
    for f in package.files:
        for node in f.of(ast.Call):
            if is_call_of(node, WALKS) or is_method_call(node, {"items", "keys", "values"}):
                if not walked_at_once(node):
                    yield "L23", f, node, "not walked on the spot"
        for loop in f.of(ast.For):
            walked = {ast.unparse(n) for n in walked_things(loop.iter)}
            for node in [n for row in loop.body for n in ast.walk(row)]:
                if changed_things(node) & walked:
                    yield "L23", f, node, "what the loop walks is changed in it"


def walked_at_once(node):
    up = node.parent
    if isinstance(up, (ast.For, ast.comprehension)):
        return up.iter is node
    if is_call_of(up, WALKED_IN):
        return up.args[:1] == [node]
    if is_call_of(up, {"min", "max"}):
        return up.args == [node] and not up.keywords
    return is_method_call(up, {"join"}) and is_text(up.func.value)


def walked_things(node):
    if is_call_of(node, {"enumerate", "zip", "reversed"}):
        return [thing for a in node.args for thing in walked_things(a)]
    if is_method_call(node, {"items", "keys", "values"}):
        return [node.func.value]
    return [node]


def changed_things(node):
    if isinstance(node, (ast.Assign, ast.AugAssign)):
        target = node.targets[0] if isinstance(node, ast.Assign) else node.target
        if isinstance(target, ast.Subscript):
            return {ast.unparse(target.value)}
        return {ast.unparse(target)} if isinstance(node, ast.AugAssign) else set()
    return {ast.unparse(node.func.value)} if is_method_call(node, CHANGES) else set()


def sets(package):  # L24
    for f in package.files:
        for node in f.nodes:
            if is_set(node) and not (isinstance(node.parent, ast.BinOp) and is_set(node.parent)):
                if not set_is_used_well(node):
                    yield "L24", f, node, "a set that is kept or walked"


def is_set(node):
    if isinstance(node, ast.BinOp) and isinstance(node.op, (ast.Sub, ast.BitAnd, ast.BitOr, ast.BitXor)):
        return is_set(node.left) or is_set(node.right)
    return isinstance(node, ast.Set) or is_call_of(node, {"set", "frozenset"})


def set_is_used_well(node):
    up = node.parent
    if isinstance(up, ast.Compare) and len(up.ops) == 1:
        if isinstance(up.ops[0], (ast.In, ast.NotIn)):
            return up.comparators == [node]
        return isinstance(up.ops[0], (ast.Eq, ast.NotEq)) and is_set(up.left) and is_set(up.comparators[0])
    return is_call_of(up, {"sorted", "len"}) and up.args == [node] and not up.keywords


def dunder_methods(package):  # L28
    for f in package.files:
        for node in f.of(ast.FunctionDef):
            inner = list(ast.walk(node))
            returns = [n for n in inner if isinstance(n, ast.Return)]
            if node.name == "__init__" and any(n.value is not None for n in returns):
                yield "L28", f, node, "__init__ gives something back"
            if node.name in QUIET_METHODS:
                stores = any(isinstance(n, (ast.Assign, ast.AugAssign)) or is_method_call(n, CHANGES) for n in inner)
                if stores or not all(return_is_plain(node.name, n.value) for n in returns):
                    yield "L28", f, node, f"{node.name} stores something or gives back another form"
        for node in f.of(ast.Call):
            if is_method_call(node, {"__init__"}):
                owner = within(node, ast.ClassDef)
                bases = [ast.unparse(b) for b in owner.bases] if owner else []
                if ast.unparse(node.func.value) not in bases or not node.args or ast.unparse(node.args[0]) != "self":
                    yield "L28", f, node, "a base's __init__ is called as Base.__init__(self, ..)"


def return_is_plain(name, value):
    if name == "__len__":
        return is_call_of(value, {"len"}) or is_number(value)
    if name in ("__repr__", "__str__"):
        joined = is_method_call(value, {"join"}) and is_text(value.func.value)
        return is_text(value) or isinstance(value, ast.JoinedStr) or is_call_of(value, {"str", "repr"}) or joined
    return True


RULES = (file_names, signs_and_sizes, imports, tops, functions, classes, statements, expressions, names, uses,
         errors, walks, sets, dunder_methods)


def faults(texts):
    package = Package([File(path, text) for path, text in sorted(texts.items())])
    found = []
    for rule in RULES:
        for number, f, where, what in rule(package):
            line = where if isinstance(where, int) else getattr(where, "lineno", 0)
            found.append(f"{number} {f.path}:{line} {what}")
    return found
