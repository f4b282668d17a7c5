"""Finds code that breaks those rules of the language that a glance at the syntax shows.

The rules are far more than these; this is a net for slips, not a verdict.
"""

import ast
import builtins
import re
import string

PACKAGE = "clockless"
ALLOWED_BUILTINS = set("""len range enumerate zip min max sum abs sorted reversed int str bool bytes list tuple dict
set frozenset isinstance ord repr any all divmod pow getattr hasattr setattr iter next map super property
staticmethod classmethod Exception ValueError TypeError KeyError IndexError LookupError ZeroDivisionError
ArithmeticError OverflowError RuntimeError NotImplementedError AttributeError StopIteration
NotImplemented""".split())
METHODS = set("""append clear copy count endswith extend find get index insert isalnum isalpha isdigit islower isspace
isupper items join keys ljust lower lstrip partition pop remove replace reverse rfind rjust rpartition rsplit rstrip
setdefault split splitlines startswith strip update upper values zfill bit_length sort add discard title capitalize
swapcase casefold center expandtabs removeprefix removesuffix rindex isascii isdecimal isnumeric istitle isidentifier
isprintable""".split())
DUNDERS = set("__init__ __eq__ __repr__ __str__ __len__ __enter__ __exit__ __call__ __iter__".split())
NEVER = set("register mro elements open input law version_info with_traceback add_note".split())
NOT_NAMES = set("""attrgetter breakpoint builtins compile copyright credits delattr dir eval exec exit gc globals help
id importlib license locals methodcaller os quit type vars sys""".split())
BARRED_WORDS = set("""type typing typing_extensions enum Enum IntEnum StrEnum Flag IntFlag Generic Protocol ABC ABCMeta
namedtuple NamedTuple TypedDict TYPE_CHECKING abstractmethod""".split())
LIBRARY = {"heapq": {"heappush", "heappop", "heapify", "heapreplace", "heappushpop"},
           "math": {"gcd", "lcm", "isqrt", "comb", "perm", "factorial"},
           "collections": {"defaultdict"}}
BARRED_NODES = (ast.Global, ast.AsyncFunctionDef, ast.AsyncFor, ast.AsyncWith, ast.Await, ast.Div, ast.MatMult)
TAKES_GENERATOR = ("list", "tuple", "dict", "join")
TAKES_SET = ("sorted", "len")


def faults_of_text(text):
    """Faults of the characters and the size of a file."""
    lines = text.split("\n")
    faults = []
    if len(lines) > 400:
        faults.append((400, "L10 too many lines in the file"))
    for number, line in enumerate(lines, start=1):
        if len(line) > 120:
            faults.append((number, "L10 line too long"))
        if any(not " " <= character <= "~" for character in line):
            faults.append((number, "L14 character"))
        if re.search("_wall|_WallAttr|dataclass|overload|contextmanager", line):
            faults.append((number, "L12, L17 word"))
    return faults


def docstrings(tree):
    """The nodes that are docstrings."""
    owners = (ast.Module, ast.ClassDef, ast.FunctionDef)
    return {id(node.body[0].value) for node in ast.walk(tree)
            if isinstance(node, owners) and node.body and isinstance(node.body[0], ast.Expr)}


def faults_of_tree(tree, own_methods):
    """Faults of the syntax of a file."""
    faults = faults_of_module_level(tree)
    parents = {child: node for node in ast.walk(tree) for child in ast.iter_child_nodes(node)}
    described = docstrings(tree)
    for node in ast.walk(tree):
        for word in faults_of_node(node, parents, own_methods, described):
            faults.append((getattr(node, "lineno", 0), word))
    return faults


def faults_of_module_level(tree):
    faults = []
    imports_ended = False
    for index, node in enumerate(tree.body):
        if isinstance(node, ast.ImportFrom):
            if imports_ended:
                faults.append((node.lineno, "L2 import below"))
            continue
        if index > 0:
            imports_ended = True
        plain = isinstance(node, ast.Assign) and len(node.targets) == 1 and isinstance(node.targets[0], ast.Name)
        described = index == 0 and isinstance(node, ast.Expr) and isinstance(node.value, ast.Constant)
        if not (plain or described or isinstance(node, (ast.FunctionDef, ast.ClassDef))):
            faults.append((node.lineno, "L3 module level"))
    return faults


def faults_of_node(node, parents, own_methods, described):
    if isinstance(node, BARRED_NODES):
        yield "L6, L7 " + node.__class__.__name__
    if isinstance(node, ast.Import):
        yield "L16 import"
    if isinstance(node, ast.ImportFrom):
        yield from faults_of_import(node)
    if isinstance(node, ast.FunctionDef):
        yield from faults_of_function(node)
    if isinstance(node, ast.Constant) and id(node) not in described:
        yield from faults_of_constant(node)
    if isinstance(node, ast.Name):
        yield from faults_of_name(node)
    if isinstance(node, ast.arg):
        yield from faults_of_binding(node.arg)
    if isinstance(node, ast.Call) and isinstance(node.func, ast.Attribute):
        if node.func.attr not in METHODS | own_methods | {"__init__"}:
            yield "L25 method " + node.func.attr
    if isinstance(node, ast.Attribute) and node.attr in NEVER:
        yield "L17 attribute " + node.attr
    if isinstance(node, ast.GeneratorExp) and taker(node, parents) not in TAKES_GENERATOR:
        yield "L7 generator expression"
    if isinstance(node, (ast.Set, ast.SetComp)) and not may_be_set(node, parents):
        yield "L24 set"
    if isinstance(node, ast.List) and isinstance(node.ctx, ast.Store):
        yield "L6 a list as a target"
    if isinstance(node, ast.Starred) and is_star_astray(node, parents):
        yield "L7, L23 star"
    if isinstance(node, ast.BinOp) and isinstance(node.op, ast.Pow) and not isinstance(node.right, ast.Constant):
        yield "L27 exponent"
    if isinstance(node, ast.ExceptHandler) and (node.type is None or ast.unparse(node.type) == "Exception"):
        yield "L19 handler"


def taker(node, parents):
    """The name of the function or method that the node is passed to."""
    call = parents[node]
    if not isinstance(call, ast.Call):
        return None
    return call.func.attr if isinstance(call.func, ast.Attribute) else getattr(call.func, "id", None)


def may_be_set(node, parents):
    above = parents[node]
    stored = isinstance(above, ast.Assign)
    return stored or isinstance(above, (ast.Compare, ast.BinOp)) or taker(node, parents) in TAKES_SET


def is_star_astray(node, parents):
    """Whether a star stands in a set, or before what is iterated at once only."""
    call = isinstance(node.value, ast.Call) and isinstance(node.value.func, ast.Name)
    at_once = call and node.value.func.id in ("range", "zip", "enumerate", "reversed", "map")
    return isinstance(parents[node], ast.Set) or at_once or isinstance(node.value, ast.GeneratorExp)


def faults_of_import(node):
    names = {alias.name for alias in node.names}
    if node.level or any(alias.asname for alias in node.names) or "*" in names:
        yield "L2 form of an import"
    elif node.module in LIBRARY:
        if not names <= LIBRARY[node.module]:
            yield "L2 library"
    elif not node.module.startswith(PACKAGE + "."):
        yield "L2 module " + node.module


def faults_of_function(node):
    if node.end_lineno - node.lineno >= 40:
        yield "L10 function too long"
    for decorator in node.decorator_list:
        if not re.fullmatch(r"property|staticmethod|classmethod|\w+\.setter", ast.unparse(decorator)):
            yield "L4 decorator"
    if node.name.startswith("__") and node.name not in DUNDERS:
        yield "L5 method " + node.name
    if node.name in NEVER | NOT_NAMES:
        yield "L17 name " + node.name


def faults_of_constant(node):
    if isinstance(node.value, (float, complex)) or node.value is Ellipsis:
        yield "L7 constant"
    if isinstance(node.value, str):
        if "\x25" in node.value:
            yield "L27 percent sign"
        if set(re.findall(r"\w+", node.value)) & BARRED_WORDS:
            yield "L17 word in a string"
        if not set(node.value) <= set(string.printable):
            yield "L14 character in a string"


def faults_of_name(node):
    if isinstance(node.ctx, ast.Load):
        if node.id in vars(builtins) and node.id not in ALLOWED_BUILTINS:
            yield "L8 builtin " + node.id
        if node.id == "_":
            yield "L12 _ is read"
    else:
        yield from faults_of_binding(node.id)


def faults_of_binding(name):
    if name in vars(builtins) or name in NEVER | NOT_NAMES or name in BARRED_WORDS:
        yield "L15, L17 name " + name
    if not re.fullmatch(r"_|_?[A-Za-z]\w*", name, re.ASCII):
        yield "L12 name " + name
