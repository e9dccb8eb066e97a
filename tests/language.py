"""Looks through the package for what the Python subset of this program does not allow.

Each function tells a list of faults, texts with the rule and the line. Not every rule can be
seen so; these are the ones that are easily broken without being noticed.
"""

import ast
import builtins
import os
import re
import warnings

PACKAGE = "truecourse"
ROOT = os.path.dirname(os.path.dirname(os.path.abspath(__file__)))
FOLDER = os.path.join(ROOT, PACKAGE)

LIBRARY = {
    "heapq": {"heappush", "heappop", "heapify", "heapreplace", "heappushpop"},
    "math": {"gcd", "lcm", "isqrt", "comb", "perm", "factorial"},
    "itertools": {"product", "combinations", "permutations", "chain", "accumulate", "pairwise",
                  "islice", "zip_longest"},
    "collections": {"defaultdict"},
}
BUILTINS = set("""len range enumerate zip min max sum abs sorted reversed int str bool list tuple
dict set isinstance ord repr any all divmod pow map iter next getattr hasattr setattr Exception
ValueError TypeError KeyError IndexError LookupError ZeroDivisionError ArithmeticError
OverflowError RuntimeError NotImplementedError AttributeError StopIteration NotImplemented
property staticmethod classmethod super""".split())
METHODS = set("""append clear copy count endswith extend find get index insert isalnum isalpha
isdigit islower isspace isupper items join keys ljust lower lstrip partition pop remove replace
reverse rfind rjust rpartition rsplit rstrip setdefault split splitlines startswith strip update
upper values zfill bit_length add discard sort""".split())
BARRED_EVERYWHERE = set("""register mro elements open input law version_info with_traceback
add_note""".split())
BARRED_NAMES = set("""attrgetter breakpoint builtins compile copyright credits delattr dir eval exec
exit gc getattr globals hasattr help id importlib license locals methodcaller os quit setattr super
type vars sys""".split())
BARRED_WORDS = """type typing typing_extensions enum Enum IntEnum StrEnum Flag IntFlag Generic
Protocol ABC ABCMeta namedtuple NamedTuple TypedDict TYPE_CHECKING abstractmethod""".split()
DOUBLE = set("""__init__ __eq__ __repr__ __str__ __len__ __enter__ __exit__ __call__ __iter__
__lt__ __le__ __gt__ __ge__ __ne__ __add__ __sub__ __mul__ __contains__ __getitem__ __setitem__
__bool__ __neg__""".split())
GENERATOR_TAKERS = {"list", "tuple", "dict", "sorted", "sum", "min", "max", "any", "all", "join"}
KEYWORDS = {"sorted": {"key", "reverse"}, "min": {"key", "default"}, "max": {"key", "default"},
            "sum": {"start"}, "enumerate": {"start"}, "zip": {"strict"}}
STATEMENTS = (
    ast.Assign, ast.AugAssign, ast.If, ast.While, ast.For, ast.Return, ast.Break, ast.Continue,
    ast.Pass, ast.Raise, ast.Assert, ast.Delete, ast.Nonlocal, ast.Match, ast.With, ast.Try,
    ast.Expr, ast.FunctionDef, ast.ClassDef, ast.ImportFrom)


def paths():
    return sorted(name for name in os.listdir(FOLDER) if name != "__pycache__")


def source(path):
    with open(os.path.join(FOLDER, path), encoding="utf-8") as file:
        return file.read()


class Module:
    """One file of the package, and what stands where in it."""

    def __init__(self, path):
        self.path = path
        self.text = source(path)
        with warnings.catch_warnings():
            warnings.simplefilter("error")
            self.tree = ast.parse(self.text)
            compile(self.text, path, "exec")
        self.parents = {}
        for node in ast.walk(self.tree):
            for child in ast.iter_child_nodes(node):
                self.parents[child] = node
        self.imports = {}
        for node in self.tree.body:
            if isinstance(node, ast.ImportFrom):
                for alias in node.names:
                    self.imports[alias.name] = node.module
        self.defined = {
            node.name for node in self.tree.body
            if isinstance(node, (ast.FunctionDef, ast.ClassDef))}
        self.classes = {node.name for node in self.tree.body if isinstance(node, ast.ClassDef)}

    def functions(self):
        return [node for node in ast.walk(self.tree) if isinstance(node, ast.FunctionDef)]

    def docstrings(self):
        found = set()
        for node in ast.walk(self.tree):
            if isinstance(node, (ast.Module, ast.FunctionDef, ast.ClassDef)) and node.body:
                first = node.body[0]
                if isinstance(first, ast.Expr) and isinstance(first.value, ast.Constant):
                    found.add(first.value)
        return found


def layout_faults(module):
    """L1, L10, L14, L27: characters and sizes."""
    found = []
    if not re.fullmatch(r"[a-z][a-z0-9_]*\.py|__init__\.py|__main__\.py", module.path):
        found.append(f"L1 {module.path}")
    name = module.path[:-3]
    if re.match(r"(law_|test)", name) or (hasattr(builtins, name) and not name.startswith("__")):
        found.append(f"L14 name {module.path}")
    lines = module.text.split("\n")
    if len(lines) > 400:
        found.append(f"L10 {module.path}: {len(lines)} lines")
    for number, line in enumerate(lines, 1):
        if len(line) > 120 or "\t" in line or line != line.rstrip():
            found.append(f"L10 {module.path}:{number}")
        if not all(" " <= character <= "~" for character in line):
            found.append(f"L14 {module.path}:{number}")
        if re.search(r"\b_wall\b|_WallAttr", line):
            found.append(f"L12 {module.path}:{number}")
    for node in module.functions():
        if node.end_lineno - node.lineno + 1 > 40:
            found.append(f"L10 {module.path}:{node.lineno} {node.name}")
        if node.decorator_list and not isinstance(module.parents[node], ast.ClassDef):
            found.append(f"L4 {module.path}:{node.lineno}")
    return found


def class_faults(module):
    """L5, L18: what stands in classes."""
    found = []
    for own in ast.walk(module.tree):
        if not isinstance(own, ast.ClassDef):
            continue
        place = f"{module.path}:{own.lineno} {own.name}"
        methods = [node.name for node in own.body if isinstance(node, ast.FunctionDef)]
        attributes = {
            node.attr for node in ast.walk(own) if isinstance(node, ast.Attribute) and isinstance(node.ctx, ast.Store)}
        found.extend(f"L18 {place} {name}" for name in attributes & set(methods))
        found.extend(f"L18 {place} {name}" for name in set(methods) if methods.count(name) > 1)
        for node in own.body:
            if isinstance(node, ast.FunctionDef):
                if [ast.unparse(part) for part in node.decorator_list] not in ([], ["property"], ["classmethod"]):
                    found.append(f"L5 {place} {node.name}")
            elif not isinstance(node, ast.Expr) or not isinstance(node.value, ast.Constant):
                found.append(f"L5 {place}:{node.lineno}")
        for decorator in own.decorator_list:
            found.append(f"L5 {place}:{decorator.lineno}")
    return found


def handler_faults(module):
    """L19: of Python's own errors only these are caught; own ones are those of the file errors."""
    found = []
    for node in ast.walk(module.tree):
        if isinstance(node, ast.ExceptHandler):
            caught = node.type.elts if isinstance(node.type, ast.Tuple) else [node.type]
            for part in caught:
                name = part.id if isinstance(part, ast.Name) else None
                if name not in ("KeyError", "ZeroDivisionError") and module.imports.get(name) != PACKAGE + ".errors":
                    found.append(f"L19 {module.path}:{node.lineno}")
    return found


def import_faults(module, modules):
    """L2, L16: what is imported, and from where."""
    found = []
    used = {node.id for node in ast.walk(module.tree) if isinstance(node, ast.Name)}
    for node in ast.walk(module.tree):
        if isinstance(node, ast.Import) and module.path != "__main__.py":
            found.append(f"L16 {module.path}:{node.lineno}")
        if not isinstance(node, ast.ImportFrom):
            continue
        place = f"{module.path}:{node.lineno}"
        if node not in module.tree.body or node.level != 0:
            found.append(f"L2 {place}")
        for alias in node.names:
            if alias.asname or alias.name == "*":
                found.append(f"L2 {place} {alias.name}")
            if alias.name not in used:
                found.append(f"unused {place} {alias.name}")
            if node.module in LIBRARY:
                if alias.name not in LIBRARY[node.module]:
                    found.append(f"L2 {place} {alias.name}")
                continue
            other = modules.get(node.module.partition(".")[2] + ".py")
            if not node.module.startswith(PACKAGE + ".") or other is None:
                found.append(f"L2 {place} {node.module}")
            elif alias.name not in other.defined and alias.name not in constants(other):
                found.append(f"L16 {place} {alias.name} is not defined in {node.module}")
    return found


def constants(module):
    return {
        target.id for node in module.tree.body if isinstance(node, ast.Assign)
        for target in node.targets if isinstance(target, ast.Name)}


def circle_faults(modules):
    """L16: no file imports itself, through whatever others."""
    after = {
        path: {name.partition(".")[2] + ".py" for name in module.imports.values()
               if name.startswith(PACKAGE)}
        for path, module in modules.items()}
    found = []
    for path in after:
        seen, waiting = set(), list(after[path])
        while waiting:
            other = waiting.pop()
            if other not in seen:
                seen.add(other)
                waiting.extend(after.get(other, ()))
        if path in seen:
            found.append(f"L16 {path} imports itself")
    return found


def top_faults(module):
    """L3, L15: what stands at module level."""
    found = []
    bound = list(module.imports) + sorted(module.defined)
    for node in module.tree.body:
        place = f"{module.path}:{node.lineno}"
        if isinstance(node, ast.Assign):
            if len(node.targets) != 1 or not isinstance(node.targets[0], ast.Name):
                found.append(f"L3 {place}")
            else:
                bound.append(node.targets[0].id)
            allowed = (ast.Constant, ast.Tuple, ast.List, ast.Dict, ast.BinOp, ast.UnaryOp,
                       ast.Name, ast.operator, ast.unaryop, ast.Load)
            if not all(isinstance(part, allowed) for part in ast.walk(node.value)):
                found.append(f"L3 {place}")
            for part in ast.walk(node.value):
                # Of names only functions of this file may stand there.
                if isinstance(part, ast.Name) and part.id not in module.defined - module.classes:
                    found.append(f"L3 {place} {part.id}")
            if any(isinstance(part, (ast.List, ast.Dict))
                   for part in ast.walk(node.value) if part is not node.value):
                found.append(f"L15 {place}")
        elif isinstance(node, ast.Expr):
            if node is not module.tree.body[0] or not isinstance(node.value, ast.Constant):
                found.append(f"L3 {place}")
        elif not isinstance(node, (ast.ImportFrom, ast.FunctionDef, ast.ClassDef)):
            found.append(f"L3 {place}")
    found.extend(f"L15 {module.path} {name}" for name in set(bound) if bound.count(name) > 1)
    return found


def bound_names(function):
    """All parameters and local variables of a function, those of comprehensions too."""
    found = set()
    for node in ast.walk(function):
        if isinstance(node, ast.arg):
            found.add(node.arg)
        elif isinstance(node, ast.Name) and isinstance(node.ctx, ast.Store):
            found.add(node.id)
        elif isinstance(node, ast.ExceptHandler) and node.name:
            found.add(node.name)
    return found


def name_faults(module):
    """L8, L12, L15, L17: names."""
    found = []
    for function in module.functions():
        for name in sorted(bound_names(function) - {"_"}):
            place = f"{module.path}:{function.lineno} {name}"
            if name in module.imports or name in module.classes:
                found.append(f"L15 {place}")
            if hasattr(builtins, name) or name in BARRED_NAMES:
                found.append(f"L15 L17 {place}")
    for node in ast.walk(module.tree):
        if isinstance(node, (ast.FunctionDef, ast.ClassDef)):
            in_class = isinstance(module.parents[node], ast.ClassDef)
            if node.name.startswith("__") and not (in_class and node.name in DOUBLE):
                found.append(f"L5 {module.path}:{node.lineno} {node.name}")
            if hasattr(builtins, node.name) and not in_class:
                found.append(f"L15 {module.path}:{node.lineno} {node.name}")
            names = [node.name]
        elif isinstance(node, ast.Name):
            names = [node.id]
            known = module.defined | set(module.imports) | constants(module)
            if hasattr(builtins, node.id) and node.id not in BUILTINS | known | {"_"}:
                found.append(f"L8 {module.path}:{node.lineno} {node.id}")
        elif isinstance(node, ast.Attribute):
            names = [node.attr]
        elif isinstance(node, ast.keyword) and node.arg:
            names = [node.arg]
        else:
            continue
        for name in names:
            if name in BARRED_EVERYWHERE or (name.startswith("__") and name not in DOUBLE):
                found.append(f"L17 {module.path}:{node.lineno} {name}")
    return found


def without_remarks(module):
    """The lines of the file without comments and docstrings."""
    lines = module.text.split("\n")
    for node in module.docstrings():
        for number in range(node.lineno - 1, node.end_lineno):
            lines[number] = ""
    return [re.sub(r"#[^'\"]*$", "", line) for line in lines]


def word_faults(module):
    found = []
    for number, line in enumerate(without_remarks(module), 1):
        for word in BARRED_WORDS:
            if re.search(r"\b" + word + r"\b", line):
                found.append(f"L17 {module.path}:{number} {word}")
    return found


def statement_faults(module):
    """L6, L7, L20, L27: statements and expressions."""
    found = []
    for node in ast.walk(module.tree):
        place = f"{module.path}:{getattr(node, 'lineno', 0)}"
        if isinstance(node, ast.stmt) and not isinstance(node, STATEMENTS):
            found.append(f"L6 {place}")
        if isinstance(node, ast.Constant):
            found.extend(f"{fault} {place}" for fault in constant_faults(node, module))
        if isinstance(node, (ast.Div, ast.MatMult, ast.NamedExpr, ast.Await, ast.Starred)):
            found.append(f"L7 {place}")
        if isinstance(node, ast.BinOp) and isinstance(node.op, ast.Pow):
            power = node.right
            if not (isinstance(power, ast.Constant) and 0 <= power.value <= 64):
                found.append(f"L27 {place}")
        if isinstance(node, ast.Compare):
            for sign, right in zip(node.ops, node.comparators):
                if isinstance(sign, (ast.Is, ast.IsNot)):
                    if not isinstance(right, ast.Constant) or right.value not in (None, True, False):
                        found.append(f"L20 {place}")
        if isinstance(node, (ast.Set, ast.SetComp)) or is_call_of(node, "set"):
            if not is_call_of(module.parents[node], "len", "sorted"):
                found.append(f"L24 {place}")
        if isinstance(node, ast.GeneratorExp):
            if not is_call_of(module.parents[node], *GENERATOR_TAKERS):
                found.append(f"L7 {place}")
        if isinstance(node, ast.Raise) and node.exc is not None:
            if not isinstance(node.exc, ast.Call) or not isinstance(node.exc.func, ast.Name):
                found.append(f"L19 {place}")
    return found


def constant_faults(node, module):
    found = []
    if isinstance(node.value, (float, complex)) or node.value is Ellipsis:
        found.append("L7")
    if isinstance(node.value, str):
        if "%" in node.value:
            found.append("L27")
        if node not in module.docstrings() and re.search(r"\\[^n\\'\"t]", repr(node.value)):
            found.append("L27")
    return found


def is_call_of(node, *names):
    if not isinstance(node, ast.Call):
        return False
    called = node.func
    if isinstance(called, ast.Name):
        return called.id in names
    return isinstance(called, ast.Attribute) and called.attr in names


def call_faults(module, own_methods):
    """L22, L23, L25: what is called, and how."""
    found = []
    for node in ast.walk(module.tree):
        if not isinstance(node, ast.Call):
            continue
        place = f"{module.path}:{node.lineno}"
        if isinstance(node.func, ast.Attribute):
            if node.func.attr not in METHODS | own_methods and node.func.attr != "__init__":
                found.append(f"L25 {place} {node.func.attr}")
        elif isinstance(node.func, ast.Name):
            name = node.func.id
            keywords = {keyword.arg for keyword in node.keywords}
            if name in BUILTINS and not keywords <= KEYWORDS.get(name, set()):
                found.append(f"L22 {place} {name}")
            if name in ("zip", "enumerate", "reversed", "map") and not is_at_once(node, module):
                found.append(f"L23 {place} {name}")
            if module.imports.get(name) in LIBRARY and (node.keywords or is_at_top(node, module)):
                found.append(f"L2 {place} {name}")
        else:
            found.append(f"L7 {place}")
    for node in ast.walk(module.tree):
        # A function of the library is only called.
        if isinstance(node, ast.Name) and module.imports.get(node.id) in LIBRARY:
            if not is_call_of(module.parents[node], node.id):
                found.append(f"L2 {module.path}:{node.lineno} {node.id}")
    return found


def is_at_once(node, module):
    parent = module.parents[node]
    if isinstance(parent, (ast.For, ast.comprehension)):
        return parent.iter is node
    return is_call_of(parent, "list", "tuple", "dict", "sorted", "sum", "any", "all",
                      "enumerate", "zip", "min", "max", "join")


def is_at_top(node, module):
    while node in module.parents:
        node = module.parents[node]
        if isinstance(node, ast.FunctionDef):
            return False
    return True


def loop_faults(module):
    """L23: what a loop goes over is not changed in it, as far as bare names show it."""
    found = []
    changing = {"append", "extend", "pop", "insert", "remove", "clear", "update", "setdefault"}
    for loop in ast.walk(module.tree):
        if not isinstance(loop, ast.For):
            continue
        gone_over = {node.id for node in ast.walk(loop.iter) if isinstance(node, ast.Name)}
        if is_call_of(loop.iter, "range", "list", "sorted"):
            continue
        for node in ast.walk(ast.Module(loop.body, [])):
            changed = None
            if isinstance(node, ast.Call) and isinstance(node.func, ast.Attribute):
                if node.func.attr in changing:
                    changed = node.func.value
            elif isinstance(node, ast.Subscript) and isinstance(node.ctx, ast.Store):
                changed = node.value
            if isinstance(changed, ast.Name) and changed.id in gone_over:
                found.append(f"L23 {module.path}:{node.lineno} {changed.id}")
    return found


def all_faults():
    modules = {path: Module(path) for path in paths()}
    own_methods = {
        child.name for module in modules.values() for node in module.tree.body
        if isinstance(node, ast.ClassDef) for child in node.body
        if isinstance(child, ast.FunctionDef)}
    found = circle_faults(modules)
    if len(modules) > 100:
        found.append("L14 too many files")
    for module in modules.values():
        found.extend(layout_faults(module))
        found.extend(import_faults(module, modules))
        found.extend(top_faults(module))
        found.extend(class_faults(module))
        found.extend(handler_faults(module))
        found.extend(name_faults(module))
        found.extend(word_faults(module))
        found.extend(statement_faults(module))
        found.extend(call_faults(module, own_methods))
        found.extend(loop_faults(module))
    return found
