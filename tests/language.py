"""Looks at the package's files by the rules of LANGUAGE.md that can be seen in the syntax.

Each look tells a list of faults, texts of the form "file:row rule what".
"""

import ast
import builtins
import io
import os
import re
import tokenize

PACKAGE = "arrayloom"
FOLDER = os.path.join(os.path.dirname(os.path.dirname(os.path.abspath(__file__))), PACKAGE)

OWN_NAMES = set("""len range enumerate zip min max sum abs sorted reversed int str bool list tuple dict set frozenset
isinstance ord repr any all divmod Exception ValueError TypeError KeyError IndexError LookupError ZeroDivisionError
ArithmeticError OverflowError RuntimeError NotImplementedError AttributeError StopIteration""".split())
METHODS = set("""append clear copy count endswith extend find get index insert isalnum isalpha isdigit islower isspace
isupper items join keys ljust lower lstrip partition pop remove replace reverse rfind rjust rpartition rsplit rstrip
setdefault split splitlines startswith strip update upper values zfill bit_length""".split())
NO_NAMES = set("""register mro elements open input version_info with_traceback add_note attrgetter breakpoint builtins
compile copyright credits delattr dir eval exec exit gc getattr globals hasattr help id importlib license locals
methodcaller os quit setattr super type vars sys chr""".split())
NO_VALUES = set("""items keys values pop update append clear extend insert remove reverse setdefault sort args encode
format format_map mro""".split())
FREE_VALUES = set("count index title find get join lower upper split strip copy add".split())
NO_FILES = set("test tests testing site conftest sitecustomize usercustomize".split())
NO_WORDS = re.compile(r"\b(type|typing|typing_extensions|enum|Enum|IntEnum|StrEnum|Flag|IntFlag|Generic|Protocol|ABC"
                      r"|ABCMeta|namedtuple|NamedTuple|TypedDict|TYPE_CHECKING|abstractmethod)\b"
                      r"|dataclass|overload|contextmanager")
OWN_DUNDERS = set("__init__ __eq__ __repr__ __str__ __len__".split())
PLAIN_NAME = re.compile(r"[A-Za-z][A-Za-z0-9_]*\Z")
FRAME_NAME = re.compile(r"(f|tb|co|gi|cr|ag)_[a-z]+\Z")

NODES = (
    ast.Module, ast.Import, ast.ImportFrom, ast.alias, ast.FunctionDef, ast.Lambda, ast.ClassDef, ast.arguments,
    ast.arg, ast.Assign, ast.AugAssign, ast.If, ast.While, ast.For, ast.Return, ast.Break, ast.Continue, ast.Pass,
    ast.Raise, ast.Try, ast.ExceptHandler, ast.Expr, ast.Constant, ast.Name, ast.List, ast.Tuple, ast.Dict, ast.Set,
    ast.BinOp, ast.UnaryOp, ast.BoolOp, ast.Compare, ast.IfExp, ast.Call, ast.keyword, ast.Attribute, ast.Subscript,
    ast.Slice, ast.ListComp, ast.comprehension, ast.JoinedStr, ast.FormattedValue, ast.expr_context, ast.operator,
    ast.unaryop, ast.boolop, ast.cmpop)
SCOPES = (ast.FunctionDef, ast.Lambda)
WALKED = ("zip", "enumerate", "reversed", "range")
WALKED_METHODS = ("items", "keys", "values")
WALKERS = ("list", "tuple", "dict", "sorted", "sum", "any", "all", "enumerate", "zip", "min", "max")
BUILTIN_VALUES = (str, int, list, dict, set, bytes)
KEYWORDS = {"sorted": ("key", "reverse"), "min": ("key", "default"), "max": ("key", "default"), "sum": ("start",),
            "enumerate": ("start",), "zip": ("strict",)}
ASKED_FOR = ("int", "str", "bool", "list", "tuple", "dict")
CHANGING = ("append", "clear", "extend", "insert", "pop", "remove", "reverse", "setdefault", "update")
READING = ("get", "items", "keys", "values", "index", "count", "copy")
READERS = ("len", "list", "dict", "tuple", "sorted", "min", "max", "sum", "any", "all", "enumerate", "zip", "reversed")
NARROW_ERRORS = ("ValueError", "LookupError", "IndexError")
ESCAPE = re.compile(r"(?<!\\)(\\\\)*\\[^nt\\'\"]")


class File:
    def __init__(self, name, text):
        self.name = name
        self.text = text
        self.tree = ast.parse(text)
        self.parents = {}
        for node in ast.walk(self.tree):
            for child in ast.iter_child_nodes(node):
                self.parents[child] = node

    def fault(self, node, rule, what):
        row = node if isinstance(node, int) else getattr(node, "lineno", 0)
        return f"{self.name}:{row} {rule} {what}"

    def bound_at_top(self):
        names = []
        for node in self.tree.body:
            if isinstance(node, (ast.FunctionDef, ast.ClassDef)):
                names.append(node.name)
            elif isinstance(node, ast.Assign):
                names.extend(target.id for target in node.targets if isinstance(target, ast.Name))
        return names

    def imported(self):
        return [alias.name for node in self.tree.body if isinstance(node, ast.ImportFrom) for alias in node.names]


def package_files():
    files = []
    for name in sorted(os.listdir(FOLDER)):
        if name == "__pycache__":
            continue
        with open(os.path.join(FOLDER, name), encoding="utf-8", newline="") as opened:
            files.append(File(name, opened.read()))
    return files


def faults_of(files):
    faults = []
    for file in files:
        for look in (look_file_name, look_text, look_top, look_nodes, look_imports, look_names, look_calls,
                     look_keywords, look_walks, look_changes, look_sets, look_two_forms, look_kept_at_top, look_escapes,
                     look_errors, look_dunders):
            faults.extend(look(file))
    return faults + look_circles(files) + look_import_names(files) + look_methods_and_values(files)


def look_file_name(file):
    stem = file.name[:-3]
    if file.name in ("__init__.py", "__main__.py"):
        return []
    good = re.fullmatch(r"[a-z][a-z0-9_]*\.py", file.name)
    if not good or stem in NO_FILES or stem.startswith("test_") or stem in dir(builtins) or NO_WORDS.search(stem):
        return [file.fault(0, "L14", "file name")]
    return []


def look_text(file):
    faults = []
    rows = file.text.split("\n")
    if len(rows) - 1 > 400:
        faults.append(file.fault(0, "L10", "more than 400 lines"))
    for number, row in enumerate(rows, start=1):
        if len(row) > 120:
            faults.append(file.fault(number, "L10", "more than 120 characters"))
        if any(not " " <= sign <= "~" for sign in row):
            faults.append(file.fault(number, "L14", "a sign beyond the plain ones"))
        if NO_WORDS.search(row):
            faults.append(file.fault(number, "L17", "a word that stands nowhere"))
    return faults


def look_top(file):
    faults = []
    for place, node in enumerate(file.tree.body):
        if isinstance(node, (ast.ImportFrom, ast.FunctionDef, ast.ClassDef)):
            continue
        if place == 0 and isinstance(node, ast.Expr) and isinstance(node.value, ast.Constant):
            continue
        if isinstance(node, ast.Assign) and isinstance(node.targets[0], ast.Name):
            inner = [child for child in ast.walk(node.value) if isinstance(child, (ast.List, ast.Dict))]
            calls = [child for child in ast.walk(node.value) if isinstance(child, (ast.Call, ast.ListComp, ast.Set))]
            if calls or [child for child in inner if child is not node.value]:
                faults.append(file.fault(node, "L15", "no plain value at the top"))
            continue
        if file.name != "__main__.py":
            faults.append(file.fault(node, "L3", "statement at the top"))
    names = file.bound_at_top() + file.imported()
    if len(names) != len(set(names)):
        faults.append(file.fault(0, "L15", "a name bound twice at the top"))
    return faults


def look_nodes(file):
    faults = []
    for node in ast.walk(file.tree):
        if not isinstance(node, NODES):
            faults.append(file.fault(node, "L6/L7", type(node).__name__))
        for rule, what, is_so in NODE_RULES:
            if is_so(node, file):
                faults.append(file.fault(node, rule, what))
    return faults


def has_star(node):
    arguments = node.args
    return bool(arguments.vararg or arguments.kwarg or arguments.kwonlyargs or arguments.posonlyargs)


def is_call_of(node, names):
    return isinstance(node, ast.Call) and isinstance(node.func, ast.Name) and node.func.id in names


def is_other_than_a_call(node, file):
    if not isinstance(node, ast.Expr) or isinstance(node.value, ast.Call):
        return False
    return not (isinstance(file.parents[node], ast.Module) and file.tree.body[0] is node)


def is_open_power(node, file):
    if not isinstance(node, ast.BinOp) or not isinstance(node.op, ast.Pow):
        return False
    return not (isinstance(node.right, ast.Constant) and 0 <= node.right.value <= 64)


def is_odd_is(node, file):
    if not isinstance(node, ast.Compare) or not any(isinstance(op, (ast.Is, ast.IsNot)) for op in node.ops):
        return False
    sides = [node.left] + node.comparators
    return not any(isinstance(side, ast.Constant) and side.value in (None, True, False) for side in sides)


def is_odd_class_body(node, file):
    if not isinstance(node, ast.ClassDef):
        return False
    odd = [child for child in node.body if not isinstance(child, (ast.FunctionDef, ast.Pass))]
    methods = [child.name for child in node.body if isinstance(child, ast.FunctionDef)]
    outside = not isinstance(file.parents[node], ast.Module)
    return bool(odd) or len(node.bases) > 1 or bool(node.keywords) or len(methods) != len(set(methods)) or outside


def is_odd_format(node, file):
    return isinstance(node, ast.FormattedValue) and not (
        isinstance(node.value, ast.Name) and node.conversion in (-1, ord("r")) and node.format_spec is None)


def is_odd_constant(node, file):
    if not isinstance(node, ast.Constant):
        return False
    if isinstance(node.value, str):
        return "%" in node.value
    return not (node.value is None or isinstance(node.value, int))


NODE_RULES = (
    ("L4", "decorator", lambda node, file: bool(getattr(node, "decorator_list", []))),
    ("L4", "a star among the parameters", lambda node, file: isinstance(node, SCOPES) and has_star(node)),
    ("L5", "class body", is_odd_class_body),
    ("L6", "else behind a loop", lambda node, file: isinstance(node, (ast.For, ast.While)) and bool(node.orelse)),
    ("L6", "finally", lambda node, file: isinstance(node, ast.Try) and bool(node.finalbody)),
    ("L6", "several targets", lambda node, file: isinstance(node, ast.Assign) and len(node.targets) > 1),
    ("L6", "a value by itself", is_other_than_a_call),
    ("L7", "float division", lambda node, file: isinstance(node, ast.Div)),
    ("L7", "comprehension", lambda node, file: isinstance(node, ast.ListComp) and (
        len(node.generators) > 1 or len(node.generators[0].ifs) > 1)),
    ("L7", "f-string", is_odd_format),
    ("L7", "constant", is_odd_constant),
    ("L10", "more than 40 lines", lambda node, file: isinstance(node, ast.FunctionDef)
        and node.end_lineno - node.lineno >= 40),
    ("L20", "is", is_odd_is),
    ("L21", "annotation", lambda node, file: bool(getattr(node, "annotation", None) or getattr(node, "returns", None))),
    ("L27", "open exponent", is_open_power),
)


def look_imports(file):
    faults = []
    for node in ast.walk(file.tree):
        if isinstance(node, ast.Import):
            if file.name != "__main__.py" or [alias.name for alias in node.names] != ["sys"]:
                faults.append(file.fault(node, "L16", "import"))
        if isinstance(node, ast.ImportFrom):
            good = node.level == 0 and node.module.startswith(PACKAGE + ".") and node in file.tree.body
            if not good or any(alias.name == "*" or alias.asname for alias in node.names):
                faults.append(file.fault(node, "L2", "import"))
    return faults


def look_names(file):
    faults = []
    at_top = [node.name for node in file.tree.body if isinstance(node, ast.ClassDef)] + file.imported()
    bound = set(file.bound_at_top() + file.imported())
    for node in ast.walk(file.tree):
        for name in names_bound_by(node):
            bound.add(name)
            is_top = file.parents.get(node) is file.tree or isinstance(file.parents.get(node), ast.ClassDef)
            if not PLAIN_NAME.match(name) and name not in OWN_DUNDERS:
                faults.append(file.fault(node, "L12", name))
            if not isinstance(file.parents.get(node), ast.ClassDef) and name in dir(builtins):
                faults.append(file.fault(node, "L15", name))
            if not is_top and name in at_top:
                faults.append(file.fault(node, "L15", name))
    for node in ast.walk(file.tree):
        if isinstance(node, ast.Name) and (node.id in NO_NAMES or node.id not in bound and node.id not in OWN_NAMES):
            if not (file.name == "__main__.py" and node.id in ("sys", "print", "__name__")):
                faults.append(file.fault(node, "L8/L17", node.id))
        if isinstance(node, ast.Attribute) and (node.attr in NO_NAMES or FRAME_NAME.match(node.attr)):
            faults.append(file.fault(node, "L17", node.attr))
    return faults


def names_bound_by(node):
    if isinstance(node, (ast.FunctionDef, ast.ClassDef)):
        return [node.name]
    if isinstance(node, ast.arg):
        return [node.arg]
    if isinstance(node, ast.Name) and isinstance(node.ctx, ast.Store):
        return [node.id]
    if isinstance(node, ast.ExceptHandler) and node.name:
        return [node.name]
    return []


def look_calls(file):
    faults = []
    for node in ast.walk(file.tree):
        if isinstance(node, ast.Name) and isinstance(node.ctx, ast.Load) and node.id in OWN_NAMES:
            parent = file.parents[node]
            called = isinstance(parent, ast.Call) and parent.func is node
            if not called and not may_stand_uncalled(node, file):
                faults.append(file.fault(node, "L22", node.id))
        if isinstance(node, ast.Attribute) and node.attr.startswith("__") and node.attr != "__init__":
            faults.append(file.fault(node, "L8", node.attr))
    return faults


def may_stand_uncalled(node, file):
    parent = file.parents[node]
    if isinstance(parent, ast.Tuple):
        parent = file.parents[parent]
    if isinstance(parent, ast.Attribute):
        return parent.attr == "__init__"
    return isinstance(parent, (ast.ClassDef, ast.ExceptHandler, ast.keyword)) or is_call_of(parent, ("isinstance",))


def look_keywords(file):
    faults = []
    for node in ast.walk(file.tree):
        if isinstance(node, ast.Call):
            name = node.func.id if isinstance(node.func, ast.Name) else getattr(node.func, "attr", "")
            of_python = name in OWN_NAMES or isinstance(node.func, ast.Attribute) and name in METHODS
            if of_python and any(keyword.arg not in KEYWORDS.get(name, ()) for keyword in node.keywords):
                faults.append(file.fault(node, "L22", "keyword"))
            if name == "isinstance" and not is_class_to_ask_for(node.args[1]):
                faults.append(file.fault(node, "L22", "isinstance"))
    return faults


def is_class_to_ask_for(node):
    if isinstance(node, ast.Tuple):
        return all(is_class_to_ask_for(member) for member in node.elts)
    return isinstance(node, ast.Name) and (node.id in ASKED_FOR or node.id not in OWN_NAMES)


def look_changes(file):
    """What a loop walks is not changed in it."""
    faults = []
    for node in ast.walk(file.tree):
        if isinstance(node, ast.For):
            walked = [ast.dump(part) for part in walked_by(node.iter)]
            for inner in [found for row in node.body for found in ast.walk(row)]:
                if changed_by(inner) is not None and without_context(changed_by(inner)) in walked:
                    faults.append(file.fault(inner, "L23", "changed where it is walked"))
    return faults


def walked_by(node):
    """The thing itself, or those that it is walked through."""
    if is_call_of(node, WALKED):
        return [part for argument in node.args for part in walked_by(argument)]
    if isinstance(node, ast.Call) and isinstance(node.func, ast.Attribute) and node.func.attr in WALKED_METHODS:
        return [node.func.value]
    return [node]


def changed_by(node):
    if isinstance(node, ast.Call) and isinstance(node.func, ast.Attribute) and node.func.attr in CHANGING:
        return node.func.value
    if isinstance(node, ast.Subscript) and isinstance(node.ctx, ast.Store):
        return node.value
    if isinstance(node, ast.AugAssign):
        return node.target
    return None


def without_context(node):
    return ast.dump(node).replace("Store()", "Load()")


def look_two_forms(file):
    faults, lambdas = [], []
    for node in ast.walk(file.tree):
        if isinstance(node, ast.Set) and not isinstance(file.parents[node], ast.Compare):
            numbers = [member for member in node.elts if isinstance(getattr(member, "value", None), int)]
            if len(numbers) >= 3:
                faults.append(file.fault(node, "L13", "a set of numbers"))
        if isinstance(node, ast.Lambda):
            form = (node.lineno, [argument.arg for argument in node.args.args])
            if form in lambdas:
                faults.append(file.fault(node, "L13", "two lambdas on one line"))
            lambdas.append(form)
    return faults


def look_kept_at_top(file):
    """A list or dict of a file's top is only read."""
    faults = []
    kept = [node.targets[0].id for node in file.tree.body
            if isinstance(node, ast.Assign) and isinstance(node.value, (ast.List, ast.Dict))]
    for node in ast.walk(file.tree):
        if isinstance(node, ast.Name) and node.id in kept and isinstance(node.ctx, ast.Load):
            parent = file.parents[node]
            indexed = isinstance(parent, ast.Subscript) and parent.value is node and isinstance(parent.ctx, ast.Load)
            walked = isinstance(parent, (ast.For, ast.comprehension)) and parent.iter is node
            asked = isinstance(parent, ast.Attribute) and parent.attr in READING
            called = is_call_of(parent, READERS)
            if not (indexed or walked or asked or called or isinstance(parent, ast.Compare)):
                faults.append(file.fault(node, "L15", node.id + " is not only read"))
    return faults


def look_escapes(file):
    faults = []
    for token in tokenize.generate_tokens(io.StringIO(file.text).readline):
        if token.type == tokenize.STRING and ESCAPE.search(token.string):
            faults.append(file.fault(token.start[0], "L27", "escape"))
        if token.type == tokenize.STRING and token.string[:1] in "rbRBuU":
            faults.append(file.fault(token.start[0], "L27", "a text of another sort"))
    return faults


def look_dunders(file):
    faults = []
    for node in ast.walk(file.tree):
        if isinstance(node, ast.FunctionDef) and node.name in OWN_DUNDERS:
            returns = [found for found in ast.walk(node) if isinstance(found, ast.Return)]
            stores = [found for found in ast.walk(node) if isinstance(found, (ast.Attribute, ast.Subscript))
                      and isinstance(found.ctx, ast.Store)]
            if node.name == "__init__" and returns or node.name != "__init__" and stores:
                faults.append(file.fault(node, "L28", node.name))
    return faults


def look_walks(file):
    faults = []
    for node in ast.walk(file.tree):
        method = isinstance(node, ast.Call) and isinstance(node.func, ast.Attribute) and node.func.attr
        if not is_call_of(node, WALKED) and method not in WALKED_METHODS:
            continue
        parent = file.parents[node]
        walked = isinstance(parent, (ast.For, ast.comprehension)) and parent.iter is node
        joined = isinstance(parent, ast.Call) and isinstance(parent.func, ast.Attribute) and parent.func.attr == "join"
        if not walked and not joined and not is_call_of(parent, WALKERS):
            faults.append(file.fault(node, "L23", "kept, not walked"))
    return faults


def look_sets(file):
    faults = []
    for node in ast.walk(file.tree):
        if not is_call_of(node, ("set", "frozenset")) and not isinstance(node, ast.Set):
            continue
        parent = file.parents[node]
        while isinstance(parent, ast.BinOp):
            parent = file.parents[parent]
        if not isinstance(parent, ast.Compare) and not is_call_of(parent, ("sorted", "len")):
            faults.append(file.fault(node, "L24", "a set is kept"))
    return faults


def look_errors(file):
    faults = []
    for node in ast.walk(file.tree):
        if isinstance(node, ast.ExceptHandler):
            taken = [name.id for name in ast.walk(node.type or ast.Tuple([])) if isinstance(name, ast.Name)]
            if not taken or "Exception" in taken or "TypeError" in taken:
                faults.append(file.fault(node, "L19", "except"))
            if set(taken) & set(NARROW_ERRORS) and not is_narrow(file.parents[node]):
                faults.append(file.fault(node, "L19", "more than one thing within the try"))
        if isinstance(node, ast.Raise) and not isinstance(node.exc, ast.Call):
            faults.append(file.fault(node, "L19", "raise"))
    return faults


def is_narrow(node):
    """One row, in which nothing is called but what may be refused there."""
    calls = [found for row in node.body for found in ast.walk(row) if isinstance(found, (ast.Call, ast.JoinedStr))]
    names = [getattr(call.func, "id", getattr(call.func, "attr", "")) for call in calls if isinstance(call, ast.Call)]
    return len(node.body) == 1 and len(names) == len(calls) and set(names) <= {"int", "str", "index", "remove"}


def module_name(file):
    return PACKAGE + "." + file.name[:-3]


def look_import_names(files):
    faults = []
    names = {module_name(file): file.bound_at_top() for file in files}
    for file in files:
        for node in file.tree.body:
            if isinstance(node, ast.ImportFrom):
                for alias in node.names:
                    if alias.name not in names.get(node.module, []):
                        faults.append(file.fault(node, "L16", alias.name + " is not defined there"))
    return faults


def look_circles(files):
    drawn = {}
    for file in files:
        drawn[module_name(file)] = [node.module for node in file.tree.body if isinstance(node, ast.ImportFrom)]
    faults = []
    for name in drawn:
        reached, waiting = [], list(drawn[name])
        while waiting:
            other = waiting.pop()
            if other not in reached:
                reached.append(other)
                waiting.extend(drawn.get(other, []))
        if name in reached:
            faults.append(name + " L16 draws from itself in the end")
    return faults


def look_methods_and_values(files):
    methods, values, faults = {}, {}, []
    for file in files:
        for node in ast.walk(file.tree):
            if isinstance(node, ast.FunctionDef) and isinstance(file.parents[node], ast.ClassDef):
                methods[node.name] = file.fault(node, "L18", node.name)
            if isinstance(node, ast.Attribute) and isinstance(node.ctx, ast.Store):
                values[node.attr] = file.fault(node, "L18/L26", node.attr)
    of_python = {name for value in BUILTIN_VALUES for name in dir(value)}
    for name, fault in values.items():
        if name in methods or name in NO_VALUES or name in of_python and name not in FREE_VALUES:
            faults.append(fault)
    for name, fault in methods.items():
        if name in of_python and name not in METHODS | OWN_DUNDERS | {"add", "discard"}:
            faults.append(fault)
    return faults + look_methods(files, methods, values)


def look_methods(files, methods, values):
    faults = []
    for file in files:
        for node in ast.walk(file.tree):
            if isinstance(node, ast.Attribute) and isinstance(node.ctx, ast.Load):
                parent = file.parents[node]
                called = isinstance(parent, ast.Call) and parent.func is node
                if called and node.attr not in METHODS and node.attr not in methods and node.attr != "__init__":
                    faults.append(file.fault(node, "L25", node.attr))
                if not called and node.attr not in values and not isinstance(parent, ast.keyword):
                    faults.append(file.fault(node, "L25", node.attr))
    return faults
