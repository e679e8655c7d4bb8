"""Looks through the files of the package for what ../shared/LANGUAGE.md bars; tells (file, line, rule) for each find.

It knows the rules that can be seen in a syntax tree without guessing; it is narrower than the document in places
(no sets, no generators, no annotations, no operators), which the package does without.
"""

import ast
import builtins
import re
import warnings

LIBRARY = {
    "heapq": {"heappush", "heappop", "heapify", "heapreplace", "heappushpop"},
    "math": {"gcd", "lcm", "isqrt", "comb", "perm", "factorial"},
    "itertools": {"product", "combinations", "permutations"},
}
BUILTINS = set(
    "len range enumerate zip min max sum abs sorted reversed int str bool list tuple dict isinstance ord repr any all "
    "divmod Exception ValueError TypeError KeyError IndexError LookupError ZeroDivisionError ArithmeticError "
    "OverflowError RuntimeError NotImplementedError AttributeError True False None".split()
)
METHODS = set(
    "append clear copy count endswith extend find get index insert isalnum isalpha isdigit islower isspace isupper "
    "items join keys ljust lower lstrip partition pop remove replace reverse rfind rjust rpartition rsplit rstrip "
    "setdefault split splitlines startswith strip update upper values zfill bit_length".split()
)
CHANGING = {"append", "clear", "extend", "insert", "pop", "remove", "reverse", "setdefault", "update"}
LAZY = {"zip", "enumerate", "reversed", "range"}
VIEWS = {"items", "keys", "values"}
TAKES_LAZY = {"list", "tuple", "dict", "sorted", "sum", "any", "all", "enumerate", "zip", "min", "max"}
NOT_NAMES = set(
    "register mro elements open input law version_info with_traceback add_note attrgetter breakpoint builtins compile "
    "copyright credits delattr dir eval exec exit gc getattr globals hasattr help id importlib license locals "
    "methodcaller os quit setattr super type vars sys".split()
)
NOT_ATTRIBUTES = set(
    "items keys values pop update append clear extend insert remove reverse setdefault sort args encode decode hex "
    "fromhex format format_map mro as_integer_ratio bit_count conjugate from_bytes is_integer to_bytes real imag "
    "numerator denominator register elements open input law".split()
)
FREE_ATTRIBUTES = {"count", "index", "title", "find", "get", "join", "lower", "upper", "split", "strip", "copy", "add"}
NOT_WORDS = re.compile(
    r"\b(type|typing|typing_extensions|enum|Enum|IntEnum|StrEnum|Flag|IntFlag|Generic|Protocol|ABC|ABCMeta|namedtuple|"
    r"NamedTuple|TypedDict|TYPE_CHECKING|abstractmethod)\b|dataclass|overload|contextmanager"
)
STATEMENTS = (
    ast.Assign, ast.AugAssign, ast.If, ast.While, ast.For, ast.Return, ast.Break, ast.Continue, ast.Pass, ast.Raise,
    ast.Assert, ast.Delete, ast.Try, ast.Expr, ast.FunctionDef, ast.ClassDef, ast.ImportFrom,
)
EXPRESSIONS = (
    ast.BoolOp, ast.BinOp, ast.UnaryOp, ast.Lambda, ast.IfExp, ast.Dict, ast.ListComp, ast.DictComp, ast.GeneratorExp,
    ast.Compare, ast.Call, ast.FormattedValue, ast.JoinedStr, ast.Constant, ast.Attribute, ast.Subscript, ast.Starred,
    ast.Name, ast.List, ast.Tuple, ast.Slice,
)
BUILTIN_METHODS = {name for kind in (str, int, list, dict, set, bytes, tuple) for name in dir(kind)}


class File:
    """One file of the package, parsed, with the node around each node."""

    def __init__(self, path, package):
        self.path = path
        self.package = package
        self.text = path.read_text(encoding="utf-8")
        with warnings.catch_warnings():
            warnings.simplefilter("error")
            self.tree = ast.parse(self.text)
        self.parents = {}
        for node in ast.walk(self.tree):
            for child in ast.iter_child_nodes(node):
                self.parents[child] = node
        self.found = []

    def tell(self, node, rule):
        self.found.append((self.path.name, getattr(node, "lineno", 0), rule))

    def nodes(self, *kinds):
        return [node for node in ast.walk(self.tree) if isinstance(node, kinds)]

    def owner(self, node):
        """The function or class around a node, or the module."""
        while node in self.parents:
            node = self.parents[node]
            if isinstance(node, (ast.FunctionDef, ast.Lambda, ast.ClassDef, ast.Module)):
                return node
        return self.tree

    def bound(self):
        """The names that the file binds at module level."""
        names = []
        for node in self.tree.body:
            if isinstance(node, (ast.FunctionDef, ast.ClassDef)):
                names.append(node.name)
            elif isinstance(node, ast.ImportFrom):
                names.extend(alias.name for alias in node.names)
            elif isinstance(node, ast.Assign):
                names.extend(target.id for target in node.targets if isinstance(target, ast.Name))
        return names


def is_plain(node, functions):
    """Whether a value at module level is plain; lists and dicts stand in nothing (L15)."""
    if isinstance(node, ast.Dict):
        inner = [*node.keys, *node.values]
        return all(not isinstance(part, (ast.Dict, ast.List)) and is_plain(part, functions) for part in inner)
    if isinstance(node, (ast.List, ast.Tuple)):
        return all(not isinstance(part, (ast.Dict, ast.List)) and is_plain(part, functions) for part in node.elts)
    return isinstance(node, ast.Constant) or isinstance(node, ast.Name) and node.id in functions


def look_at_module_level(file):
    functions = []
    for node in file.tree.body:
        if isinstance(node, ast.FunctionDef):
            functions.append(node.name)
        elif isinstance(node, ast.Assign):
            if len(node.targets) != 1 or not isinstance(node.targets[0], ast.Name):
                file.tell(node, "L3")
            elif not is_plain(node.value, functions):
                file.tell(node, "L3")
        elif isinstance(node, ast.Expr):
            if not isinstance(node.value, ast.Constant):
                file.tell(node, "L3")
        elif not isinstance(node, (ast.ClassDef, ast.ImportFrom)):
            file.tell(node, "L3")
    names = file.bound()
    for name in names:
        if names.count(name) > 1:
            file.tell(file.tree, f"L15 {name}")


def look_at_imports(file, modules):
    ends = False
    for node in file.tree.body:
        if not isinstance(node, ast.ImportFrom):
            ends = ends or not (isinstance(node, ast.Expr) and isinstance(node.value, ast.Constant))
            continue
        if ends or node.level or any(alias.name == "*" or alias.asname for alias in node.names):
            file.tell(node, "L2")
        if node.module in LIBRARY:
            if not all(alias.name in LIBRARY[node.module] for alias in node.names):
                file.tell(node, "L2")
            continue
        package, _, name = node.module.partition(".")
        if package != file.package or name not in modules:
            file.tell(node, "L2")
            continue
        defined = {
            part.name if isinstance(part, (ast.FunctionDef, ast.ClassDef)) else part.targets[0].id
            for part in modules[name].tree.body
            if isinstance(part, (ast.FunctionDef, ast.ClassDef, ast.Assign))
        }
        if not all(alias.name in defined for alias in node.names):
            file.tell(node, "L16")


def look_at_kinds(file):
    for node in file.nodes(ast.stmt):
        if not isinstance(node, STATEMENTS):
            file.tell(node, "L6")
    for node in file.nodes(ast.expr):
        if not isinstance(node, EXPRESSIONS):
            file.tell(node, "L7")
    for node in file.nodes(ast.Div, ast.MatMult):
        file.tell(node, "L7")
    for node in file.nodes(ast.ListComp, ast.DictComp):
        if isinstance(file.owner(node), (ast.Module, ast.ClassDef)):
            file.tell(node, "L7")


def look_at_functions(file):
    for node in file.nodes(ast.FunctionDef, ast.ClassDef):
        if node.decorator_list:
            file.tell(node, "L4")
        if isinstance(node, ast.ClassDef) and not isinstance(file.parents[node], ast.Module):
            file.tell(node, "L15")
        if isinstance(node, ast.FunctionDef) and node.end_lineno - node.lineno + 1 > 40:
            file.tell(node, "L10")
        if isinstance(node, ast.FunctionDef) and node.name.startswith("__") and node.name != "__init__":
            file.tell(node, "L5")
    for node in file.nodes(ast.arguments):
        if node.vararg or node.kwarg or node.kwonlyargs or node.posonlyargs:
            file.tell(file.parents[node], "L4")
        for value in node.defaults:
            if not isinstance(value, ast.Constant):
                file.tell(value, "L4")
    for node in file.nodes(ast.arg):
        if node.annotation:
            file.tell(node, "L21")
    lines = {}
    for node in file.nodes(ast.Lambda):
        lines[node.lineno] = lines.get(node.lineno, 0) + 1
        if lines[node.lineno] > 1:
            file.tell(node, "L13")
    for node in file.nodes(ast.FunctionDef):
        if node.name == "__init__":
            for inner in ast.walk(node):
                if isinstance(inner, ast.Return):
                    file.tell(inner, "L28")


def look_at_classes(file, errors):
    for node in file.nodes(ast.ClassDef):
        methods = [part.name for part in node.body if isinstance(part, ast.FunctionDef)]
        attributes = {
            part.attr for part in ast.walk(node) if isinstance(part, ast.Attribute) and isinstance(part.ctx, ast.Store)
        }
        for name in methods:
            if methods.count(name) > 1 or name in attributes:
                file.tell(node, f"L18 {name}")
            if name != "__init__" and name in BUILTIN_METHODS and name not in METHODS | {"add", "discard"}:
                file.tell(node, f"L26 {name}")
        for name in attributes:
            if name in NOT_ATTRIBUTES or name in BUILTIN_METHODS - FREE_ATTRIBUTES:
                file.tell(node, f"L26 {name}")
        for part in node.body:
            if not isinstance(part, ast.FunctionDef) and not (
                isinstance(part, ast.Expr) and isinstance(part.value, ast.Constant)
            ):
                file.tell(part, "L5")
        if len(node.bases) > 1 or node.keywords:
            file.tell(node, "L5")
    for node in file.nodes(ast.ExceptHandler):
        kinds = node.type.elts if isinstance(node.type, ast.Tuple) else [node.type]
        for kind in kinds:
            if not isinstance(kind, ast.Name) or kind.id not in errors | {"KeyError", "ZeroDivisionError"}:
                file.tell(node, "L19")
    for node in file.nodes(ast.Raise):
        if node.exc is not None:
            if not isinstance(node.exc, ast.Call) or not isinstance(node.exc.func, ast.Name):
                file.tell(node, "L19")
            elif node.exc.func.id not in errors:
                file.tell(node, "L19")


def names_bound_in(file):
    """The triples (name, node, whether it is local) of all names that a file binds."""
    found = []
    for node in ast.walk(file.tree):
        if isinstance(node, ast.Name) and isinstance(node.ctx, (ast.Store, ast.Del)):
            found.append((node.id, node, not isinstance(file.owner(node), ast.Module)))
        elif isinstance(node, ast.arg):
            found.append((node.arg, node, True))
        elif isinstance(node, (ast.FunctionDef, ast.ClassDef)):
            is_method = isinstance(file.parents[node], ast.ClassDef)
            found.append((node.name, node, not isinstance(file.parents[node], (ast.Module, ast.ClassDef))))
            if is_method:
                found.pop()
        elif isinstance(node, ast.ExceptHandler) and node.name:
            found.append((node.name, node, True))
    return found


def look_at_names(file):
    heads = {name for node in file.nodes(ast.ImportFrom) for name in [alias.name for alias in node.names]}
    heads |= {node.name for node in file.nodes(ast.ClassDef)}
    for name, node, is_local in names_bound_in(file):
        if hasattr(builtins, name) or name in NOT_NAMES:
            file.tell(node, f"L15 L17 {name}")
        if is_local and name in heads:
            file.tell(node, f"L15 {name}")
        if not re.fullmatch(r"_|_?[A-Za-z][A-Za-z0-9_]*", name):
            file.tell(node, f"L12 {name}")
        if re.match(r"_(wall|pe_|dcw_|enum_|cm_|twin_re_|lay_|law_|stub_|sre|WallAttr)", name):
            file.tell(node, f"L12 {name}")
        if re.fullmatch(r"_(cold|tuplegetter|outside|record|written_out|member_names)[0-9_]*", name):
            file.tell(node, f"L12 {name}")
    for node in file.nodes(ast.Name):
        if isinstance(node.ctx, ast.Load) and node.id == "_":
            file.tell(node, "L12 _")
    for node in file.nodes(ast.Attribute):
        if node.attr.startswith("__") and not (node.attr == "__init__"):
            file.tell(node, "L8")
        if node.attr in {"register", "mro", "elements", "open", "input", "law", "format", "format_map"}:
            file.tell(node, "L17")


def scope_names(file, node):
    """The names that are bound in the functions and comprehensions around a node."""
    found = set(file.bound())
    while node in file.parents:
        node = file.parents[node]
        if isinstance(node, (ast.FunctionDef, ast.Lambda)):
            found |= {part.arg for part in ast.walk(node.args) if isinstance(part, ast.arg)}
            for part in ast.walk(node):
                if isinstance(part, ast.Name) and isinstance(part.ctx, ast.Store):
                    found.add(part.id)
                elif isinstance(part, ast.ExceptHandler) and part.name:
                    found.add(part.name)
    return found


def look_at_builtins(file):
    for node in file.nodes(ast.Name):
        if not isinstance(node.ctx, ast.Load) or node.id in scope_names(file, node):
            continue
        if node.id not in BUILTINS:
            file.tell(node, f"L8 {node.id}")
        parent = file.parents[node]
        is_called = isinstance(parent, ast.Call) and parent.func is node
        is_kind = isinstance(parent, (ast.ClassDef, ast.Tuple, ast.ExceptHandler)) or (
            isinstance(parent, ast.Call) and isinstance(parent.func, ast.Name) and parent.func.id == "isinstance"
        )
        if not is_called and not is_kind:
            file.tell(node, f"L22 {node.id}")


def look_at_calls(file, own_methods):
    for node in file.nodes(ast.Call):
        if isinstance(node.func, ast.Attribute):
            if node.func.attr not in METHODS | own_methods | {"__init__"}:
                file.tell(node, f"L25 {node.func.attr}")
            if node.keywords and node.func.attr in METHODS:
                file.tell(node, "L25")
            if node.func.attr == "join" and not isinstance(node.func.value, ast.Constant):
                if any(isinstance(part, (ast.GeneratorExp, ast.Call)) for part in node.args):
                    file.tell(node, "L7")
        elif not isinstance(node.func, ast.Name):
            file.tell(node, "L7")
    for node in file.nodes(ast.Attribute):
        parent = file.parents[node]
        is_called = isinstance(parent, ast.Call) and parent.func is node
        is_key = isinstance(parent, ast.keyword) and parent.arg == "key" and node.attr not in METHODS
        # Attributes have no names that methods of any class have, so each such name is a method's.
        if isinstance(node.ctx, ast.Load) and node.attr in METHODS | own_methods and not is_called and not is_key:
            file.tell(node, f"L25 {node.attr}")
        if isinstance(node.ctx, ast.Store) and node.attr in own_methods and file.path.stem != "errors":
            file.tell(node, f"L18 {node.attr}")


def is_lazy(node):
    if not isinstance(node, ast.Call):
        return False
    if isinstance(node.func, ast.Name):
        return node.func.id in LAZY
    return isinstance(node.func, ast.Attribute) and node.func.attr in VIEWS


def look_at_iteration(file):
    for node in file.nodes(ast.Call, ast.GeneratorExp):
        is_expression = isinstance(node, ast.GeneratorExp)
        if not is_expression and not is_lazy(node):
            continue
        parent = file.parents[node]
        if not is_expression and isinstance(parent, (ast.For, ast.comprehension)) and parent.iter is node:
            continue
        if isinstance(parent, ast.Call) and node in parent.args:
            name = parent.func.id if isinstance(parent.func, ast.Name) else parent.func.attr
            if name in TAKES_LAZY - ({"enumerate", "zip"} if is_expression else set()) or name == "join":
                continue
            if name == "reversed" and isinstance(node.func, ast.Name) and node.func.id == "range":
                continue
        file.tell(node, "L23" if not is_expression else "L7")
    for loop in file.nodes(ast.For):
        head = loop.iter
        if is_lazy(head) and head.args:
            head = head.args[0]
        elif is_lazy(head) and isinstance(head.func, ast.Attribute):
            head = head.func.value
        told = ast.unparse(head)
        for node in [part for row in loop.body for part in ast.walk(row)]:
            if isinstance(node, ast.Call) and isinstance(node.func, ast.Attribute) and node.func.attr in CHANGING:
                if ast.unparse(node.func.value) == told:
                    file.tell(node, "L23")
            if isinstance(node, ast.Subscript) and not isinstance(node.ctx, ast.Load):
                if ast.unparse(node.value) == told:
                    file.tell(node, "L23")


def look_at_tables(file, tables):
    """Lists and dicts at module level are only read (L15)."""
    for node in file.nodes(ast.Name):
        if node.id not in tables or not isinstance(node.ctx, ast.Load):
            continue
        parent = file.parents[node]
        is_read = (
            isinstance(parent, ast.Subscript) and parent.value is node and isinstance(parent.ctx, ast.Load)
            or isinstance(parent, ast.Compare)
            or isinstance(parent, (ast.For, ast.comprehension))
            or isinstance(parent, ast.Attribute) and parent.attr in {"get", "items", "keys", "values"}
            or isinstance(parent, ast.Call) and isinstance(parent.func, ast.Name) and parent.func.id in BUILTINS
        )
        if not is_read:
            file.tell(node, f"L15 {node.id}")
        outer = file.parents.get(parent)
        if isinstance(parent, ast.Subscript) and isinstance(outer, ast.Call) and outer.func is parent:
            file.tell(node, f"L3 {node.id}")


def look_at_values(file):
    for node in file.nodes(ast.Constant):
        if isinstance(node.value, (float, complex, bytes)):
            file.tell(node, "L7")
        if isinstance(node.value, str):
            text = node.value
            parent = file.parents[node]
            is_docstring = isinstance(parent, ast.Expr)
            if "%" in text:
                file.tell(node, "L27")
            if text.endswith(("._", ".__")) or len(text) > 3 and text.startswith("__") and text.endswith("__"):
                file.tell(node, "L27")
            if not is_docstring and NOT_WORDS.search(text) and text != "type":
                file.tell(node, "L17")
    for node in file.nodes(ast.Pow):
        right = file.parents[node].right
        if not isinstance(right, ast.Constant) or not 0 <= right.value <= 64:
            file.tell(file.parents[node], "L27")
    for node in file.nodes(ast.Compare):
        for sign, right in zip(node.ops, node.comparators):
            if isinstance(sign, (ast.Is, ast.IsNot)):
                if not isinstance(right, ast.Constant) or right.value not in (None, True, False):
                    file.tell(node, "L20")
    for node in file.nodes(ast.FormattedValue):
        spec = "{}" if node.format_spec is None else ast.unparse(node.format_spec)
        if not re.fullmatch(r"\{\}|f'0\d\d?x'", spec) or node.conversion != -1:
            file.tell(node, "L7")
        for part in ast.walk(node.value):
            if isinstance(part, ast.Constant) and isinstance(part.value, str):
                file.tell(node, "L27")


def look_at_lines(file):
    lines = file.text.split("\n")
    if len(lines) - 1 > 399:
        file.tell(file.tree, "L10")
    for number, line in enumerate(lines, start=1):
        if len(line) > 120:
            file.found.append((file.path.name, number, "L10"))
        if any(not " " <= sign <= "~" for sign in line):
            file.found.append((file.path.name, number, "L14"))
        for escape in re.findall(r"\\(.)", line):
            if escape not in "nt\\'\"":
                file.found.append((file.path.name, number, "L27"))
        if "_wall" in re.findall(r"\w+", line) or "_WallAttr" in line:
            file.found.append((file.path.name, number, "L12"))


def look_at_counts(file, modules):
    """Calls of functions at module level pass what these take (L22)."""
    known = {}
    for node in file.tree.body:
        if isinstance(node, ast.FunctionDef):
            known[node.name] = node
        elif isinstance(node, ast.ImportFrom) and node.module not in LIBRARY:
            for part in modules[node.module.partition(".")[2]].tree.body:
                if isinstance(part, ast.FunctionDef) and part.name in [alias.name for alias in node.names]:
                    known[part.name] = part
    for node in file.nodes(ast.Call):
        if isinstance(node.func, ast.Name) and node.func.id in known:
            if any(isinstance(part, ast.Starred) for part in node.args):
                continue
            told = known[node.func.id].args
            many = len(node.args) + len(node.keywords)
            if not len(told.args) - len(told.defaults) <= many <= len(told.args):
                file.tell(node, "L22")


def look_at_class_calls(file, classes):
    """Calls of own classes and methods pass what these take (L22); stars stand in no calls, and del takes no attributes."""
    made, taken = {}, {}
    for node in classes:
        made.setdefault(node.name, [])
        for part in node.body:
            if isinstance(part, ast.FunctionDef):
                many = len(part.args.args) - 1
                told = range(many - len(part.args.defaults), many + 1)
                (made if part.name == "__init__" else taken).setdefault(
                    node.name if part.name == "__init__" else part.name, []
                ).append(told)
    for node in file.nodes(ast.Call):
        many = len(node.args) + len(node.keywords)
        if any(isinstance(part, ast.Starred) for part in node.args):
            file.tell(node, "L7")
        elif isinstance(node.func, ast.Name) and made.get(node.func.id):
            if not any(many in told for told in made[node.func.id]):
                file.tell(node, "L22")
        elif isinstance(node.func, ast.Attribute) and node.func.attr in taken and node.func.attr not in METHODS:
            if not any(many in told for told in taken[node.func.attr]):
                file.tell(node, "L22")
    for node in file.nodes(ast.Delete):
        if not all(isinstance(target, (ast.Subscript, ast.Name)) for target in node.targets):
            file.tell(node, "L6")


def look_at_class_uses(file, names):
    """A class is called, is a base class, or stands in isinstance, except or raise (L18)."""
    for node in file.nodes(ast.Name):
        if node.id not in names or not isinstance(node.ctx, ast.Load):
            continue
        parent = file.parents[node]
        if isinstance(parent, ast.Tuple):
            parent = file.parents[parent]
        is_called = isinstance(parent, ast.Call) and (
            parent.func is node or isinstance(parent.func, ast.Name) and parent.func.id == "isinstance"
        )
        if not is_called and not isinstance(parent, (ast.ClassDef, ast.ExceptHandler)):
            file.tell(node, f"L18 {node.id}")


def look_at_file_names(file):
    """Names of files (L1, L14)."""
    name = file.path.stem
    if name == "__init__":
        return
    if not re.fullmatch(r"[a-z0-9_]+", name) or hasattr(builtins, name) or re.match(r"(law_|test_)", name):
        file.tell(file.tree, "L14")
    if name in NOT_NAMES | set(LIBRARY) | {"test", "tests", "testing", "site", "conftest", "sitecustomize", "usercustomize"}:
        file.tell(file.tree, "L14")


def comprehension_names(node):
    """The names that a comprehension assigns."""
    targets = [part for generator in node.generators for part in ast.walk(generator.target)]
    return {part.id for part in targets if isinstance(part, ast.Name)} - {"_"}


def look_at_comprehensions(file):
    """An inner comprehension goes over names of its own (L7)."""
    kinds = (ast.ListComp, ast.DictComp, ast.GeneratorExp)
    for node in file.nodes(*kinds):
        outer = file.parents.get(node)
        while outer is not None and not isinstance(outer, (ast.FunctionDef, ast.Module)):
            if isinstance(outer, kinds) and comprehension_names(node) & comprehension_names(outer):
                file.tell(node, "L7")
            outer = file.parents.get(outer)


def look_for_circles(modules):
    """The pairs of modules that import from each other, also through others (L16)."""
    imports = {
        name: {
            node.module.partition(".")[2] for node in file.nodes(ast.ImportFrom) if node.module not in LIBRARY
        }
        for name, file in modules.items()
    }
    reached = {name: set(imports[name]) for name in imports}
    for _ in imports:
        for name in reached:
            for other in list(reached[name]):
                reached[name] |= reached.get(other, set())
    return [(name, 0, "L16") for name in reached if name in reached[name]]


def finds(folder):
    """All that is found in a package's folder."""
    files = [File(path, folder.name) for path in sorted(folder.glob("*.py"))]
    modules = {file.path.stem: file for file in files}
    classes = [node for file in files for node in file.nodes(ast.ClassDef)]
    errors = {node.name for node in modules["errors"].nodes(ast.ClassDef)} if "errors" in modules else set()
    methods = {part.name for node in classes for part in node.body if isinstance(part, ast.FunctionDef)}
    stored = {
        node.attr for file in files for node in file.nodes(ast.Attribute) if isinstance(node.ctx, ast.Store)
    }
    tables = {
        node.targets[0].id
        for file in files
        for node in file.tree.body
        if isinstance(node, ast.Assign) and isinstance(node.value, (ast.List, ast.Dict))
    }
    found = look_for_circles(modules)
    for file in files:
        look_at_module_level(file)
        look_at_imports(file, modules)
        look_at_kinds(file)
        look_at_functions(file)
        look_at_classes(file, errors)
        look_at_names(file)
        look_at_builtins(file)
        look_at_calls(file, methods)
        look_at_iteration(file)
        look_at_tables(file, tables)
        look_at_values(file)
        look_at_lines(file)
        look_at_counts(file, modules)
        look_at_class_calls(file, classes)
        look_at_class_uses(file, {node.name for node in classes})
        look_at_file_names(file)
        look_at_comprehensions(file)
        for node in file.nodes(ast.Attribute):
            if isinstance(node.ctx, ast.Load) and node.attr not in stored | methods | METHODS:
                file.tell(node, f"L18 {node.attr}")
        found.extend(file.found)
    return found
