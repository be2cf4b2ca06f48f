"""Looks through the files of the package for what ../shared/LANGUAGE.md bars (the rules that a tree of code shows)."""

import ast
import builtins
import pathlib
import re
import tokenize

# A doctest that ran before this leaves its last answer there, as "_".
GIVEN = [name for name in dir(builtins) if name != "_"]
FOLDER = pathlib.Path(__file__).resolve().parent.parent / "beatwires"
BUILTINS = set(
    "len range enumerate zip min max sum abs sorted reversed int str bool list tuple dict set isinstance ord repr any "
    "all divmod ValueError TypeError KeyError IndexError LookupError NotImplemented iter next map staticmethod "
    "classmethod property super".split())
DUNDERS = set(
    "__init__ __eq__ __repr__ __str__ __len__ __call__ __iter__ __lt__ __le__ __gt__ __ge__ __ne__ __add__ __sub__ "
    "__mul__ __and__ __or__ __xor__ __rand__ __ror__ __rxor__ __lshift__ __rshift__ __neg__ __invert__ __bool__ "
    "__contains__".split())
METHODS = set(
    "append clear copy count endswith extend find get index insert isalnum isalpha isdigit islower isspace isupper items "
    "join keys ljust lower lstrip partition pop remove replace reverse rfind rjust rpartition rsplit rstrip setdefault "
    "split splitlines startswith strip update upper values zfill bit_length add discard".split())
BARRED = set("register mro elements open input law version_info with_traceback add_note".split())
BARRED_NAMES = set(
    "attrgetter breakpoint builtins compile copyright credits delattr dir eval exec exit gc getattr globals hasattr help "
    "id importlib license locals methodcaller os quit setattr super type vars sys".split())
BARRED_WORDS = (
    "typing typing_extensions enum Enum IntEnum StrEnum Flag IntFlag Generic Protocol ABC ABCMeta namedtuple NamedTuple "
    "TypedDict TYPE_CHECKING abstractmethod").split()
STATEMENTS = (ast.Assign, ast.AugAssign, ast.If, ast.While, ast.For, ast.Return, ast.Break, ast.Continue, ast.Pass,
              ast.Raise, ast.Assert, ast.Delete, ast.Try, ast.Expr, ast.FunctionDef, ast.ClassDef, ast.ImportFrom)
EXPRESSIONS = (ast.BoolOp, ast.BinOp, ast.UnaryOp, ast.IfExp, ast.Dict, ast.Set, ast.ListComp, ast.SetComp,
               ast.DictComp, ast.Yield, ast.YieldFrom, ast.Compare, ast.Call, ast.JoinedStr, ast.FormattedValue,
               ast.Constant, ast.Attribute, ast.Subscript, ast.Starred, ast.Name, ast.List, ast.Tuple, ast.Slice,
               ast.Lambda)
AT_ONCE = ("zip", "enumerate", "reversed")
TAKING = ("list", "tuple", "dict", "sorted", "sum", "any", "all", "enumerate", "zip", "min", "max")


class File:
    """A file of the package with its tree."""

    def __init__(self, path):
        self.path = path
        self.text = path.read_text(encoding="utf-8")
        self.tree = ast.parse(self.text)
        self.nodes = list(ast.walk(self.tree))
        self.parents = {}
        for node in self.nodes:
            for child in ast.iter_child_nodes(node):
                self.parents[child] = node

    def function_of(self, node):
        while node in self.parents:
            node = self.parents[node]
            if isinstance(node, ast.FunctionDef):
                return node
        return None


def files():
    return [File(path) for path in sorted(FOLDER.glob("*.py"))]


def faults():
    """A list of texts, one for each place that breaks a rule."""
    found = []
    package = files()
    for path in FOLDER.rglob("*"):
        if path.suffix != ".py" and "__pycache__" not in path.parts:
            found.append(f"L1 {path}")
    for file in package:
        def say(rule, node, why=""):
            found.append(f"{rule} {file.path.name}:{getattr(node, 'lineno', node)} {why}")
        lines_and_words(file, say)
        top_level(file, say, package)
        for node in file.nodes:
            kinds(file, node, say)
            names(file, node, say)
            calls(file, node, say)
        sets(file, say)
    across(package, found)
    return found


def lines_and_words(file, say):
    lines = file.text.split("\n")
    if len(lines) - 1 > 399:
        say("L10", len(lines), "a long file")
    for at, line in enumerate(lines, 1):
        if len(line) > 120 or "\t" in line:
            say("L10", at, "a long line or a tab")
        if not all(" " <= sign <= "~" for sign in line):
            say("L14", at)
        if "_wall" in line:
            say("L12", at)
    with open(file.path, "rb") as source:
        for token in tokenize.tokenize(source.readline):
            text = token.string
            if token.type not in (tokenize.NAME, tokenize.STRING) and not tokenize.tok_name[token.type].startswith(
                    "FSTRING"):
                continue
            docstring = text.startswith('"""')
            if docstring:
                continue
            for word in re.findall(r"\w+", text):
                if word in BARRED_WORDS or word == "type" and token.type == tokenize.NAME:
                    say("L17", token.start[0], word)
            if token.type == tokenize.STRING:
                if "%" in text or re.search(r"\\[^nt\\'\"]", text):
                    say("L27", token.start[0], text)
                if text[:-1].endswith(("._", ".__")):
                    say("L27", token.start[0], text)
    if re.search("dataclass|overload|contextmanager", file.text):
        say("L17", 1, "a barred word")


def top_level(file, say, package):
    bound = []
    for at, node in enumerate(file.tree.body):
        if isinstance(node, ast.Expr):
            if at or not isinstance(node.value, ast.Constant):
                say("L3", node)
        elif isinstance(node, ast.ImportFrom):
            imports(node, say, package)
            bound.extend(one.name for one in node.names)
            if any(not isinstance(one, (ast.Expr, ast.ImportFrom)) for one in file.tree.body[:at]):
                say("L2", node, "not at the top")
        elif isinstance(node, (ast.FunctionDef, ast.ClassDef)):
            bound.append(node.name)
        elif isinstance(node, ast.Assign) and len(node.targets) == 1 and isinstance(node.targets[0], ast.Name):
            bound.append(node.targets[0].id)
            for one in ast.walk(node.value):
                if isinstance(one, (ast.Call, ast.ListComp, ast.Lambda, ast.Set)):
                    say("L3", one)
            for one in ast.iter_child_nodes(node.value):
                if isinstance(one, (ast.List, ast.Dict)):
                    say("L15", one, "a list or dict within another")
        else:
            say("L3", node)
    for name in bound:
        if bound.count(name) > 1:
            say("L15", 1, name)
    for node in file.nodes:
        if isinstance(node, (ast.FunctionDef, ast.Lambda)):
            for told in node.args.args + node.args.kwonlyargs + node.args.posonlyargs:
                if told.arg in bound and told.arg[0].isupper():
                    say("L15", node, told.arg)
                if told.annotation:
                    say("L21", node)
            imported = [one.name for top in file.tree.body if isinstance(top, ast.ImportFrom) for one in top.names]
            for inner in ast.walk(node):
                if isinstance(inner, ast.Name) and isinstance(inner.ctx, ast.Store) and inner.id in imported:
                    say("L15", inner, inner.id)
            for told in node.args.args:
                if told.arg in imported:
                    say("L15", node, told.arg)


def imports(node, say, package):
    words = (node.module or "").split(".")
    if node.level or words[0] != "beatwires" or len(words) != 2:
        say("L2", node)
        return
    home = [file for file in package if file.path.stem == words[1]]
    for one in node.names:
        if one.asname or one.name == "*" or not home:
            say("L2", node)
        elif one.name not in [getattr(top, "name", None) for top in home[0].tree.body] + [
                top.targets[0].id for top in home[0].tree.body if isinstance(top, ast.Assign)]:
            say("L16", node, one.name)


def kinds(file, node, say):
    if isinstance(node, ast.stmt) and not isinstance(node, STATEMENTS):
        say("L6", node, type(node).__name__)
    if isinstance(node, ast.expr) and not isinstance(node, EXPRESSIONS):
        say("L7", node, type(node).__name__)
    if isinstance(node, ast.Constant) and isinstance(node.value, (float, complex, bytes)):
        say("L7", node)
    if isinstance(node, ast.BinOp) and isinstance(node.op, (ast.Div, ast.MatMult, ast.Pow)):
        say("L7", node)
    if isinstance(node, (ast.ListComp, ast.DictComp, ast.SetComp)) and file.function_of(node) is None:
        say("L7", node, "a comprehension at module level")
    if isinstance(node, ast.FunctionDef):
        if node.end_lineno - node.lineno + 1 > 40:
            say("L10", node, node.name)
        for one in node.decorator_list:
            if not isinstance(one, ast.Name) or one.id not in ("staticmethod", "classmethod", "property"):
                say("L4", node)
        for one in node.args.defaults + node.args.kw_defaults:
            if one is not None and not isinstance(one, (ast.Constant, ast.Name)):
                say("L4", node)
        if isinstance(file.parents[node], ast.FunctionDef):
            say("L4", node, "nested")
        if node.returns:
            say("L21", node)
    if isinstance(node, ast.ClassDef) and (node.decorator_list or not isinstance(file.parents[node], ast.Module)):
        say("L5", node)
    if isinstance(node, ast.Compare):
        for sign, other in zip(node.ops, node.comparators):
            if isinstance(sign, (ast.Is, ast.IsNot)) and not (
                    isinstance(other, ast.Constant) and other.value in (None, True, False)):
                say("L20", node)
    if isinstance(node, ast.ExceptHandler) and not isinstance(node.type, ast.Name):
        say("L6", node)


def names(file, node, say):
    told = None
    if isinstance(node, ast.Name):
        told = node.id
        if isinstance(node.ctx, ast.Load):
            known = told in BUILTINS or told not in GIVEN
            if not known:
                say("L8", node, told)
            if told == "_":
                say("L12", node)
            return
    elif isinstance(node, (ast.FunctionDef, ast.ClassDef)):
        told = node.name
    elif isinstance(node, ast.arg):
        told = node.arg
    elif isinstance(node, ast.keyword):
        if node.arg in BARRED:
            say("L17", node, node.arg)
        return
    elif isinstance(node, ast.Attribute):
        if node.attr in BARRED or node.attr.startswith("__") and node.attr != "__init__":
            say("L17", node, node.attr)
        return
    if told is None:
        return
    method = isinstance(node, ast.FunctionDef) and isinstance(file.parents[node], ast.ClassDef)
    if told.startswith("__"):
        if not method or told not in DUNDERS:
            say("L5", node, told)
        return
    if told in BARRED or told in BARRED_NAMES or told in GIVEN and not method:
        say("L15 L17", node, told)
    if not re.fullmatch(r"_?[A-Za-z][A-Za-z0-9_]*|_", told) or told.startswith(("_pe_", "_law_", "_stub_", "_record")):
        say("L12", node, told)


def is_taken(node, around):
    """Whether what is iterated at once is the first argument of a builtin that does so."""
    if not isinstance(around, ast.Call) or not isinstance(around.func, ast.Name) or around.args[0] is not node:
        return False
    return around.func.id in TAKING and (around.func.id not in ("min", "max") or len(around.args) == 1)


def calls(file, node, say):
    if not isinstance(node, ast.Call):
        return
    around = file.parents[node]
    if isinstance(node.func, ast.Name) and node.func.id in AT_ONCE:
        looped = isinstance(around, (ast.For, ast.comprehension)) and around.iter is node
        taken = is_taken(node, around)
        if not looped and not taken:
            say("L23", node, node.func.id)
    if isinstance(node.func, ast.Attribute) and node.func.attr in ("items", "keys", "values"):
        looped = isinstance(around, (ast.For, ast.comprehension)) and around.iter is node
        taken = is_taken(node, around)
        if not looped and not taken:
            say("L23", node, node.func.attr)
    if isinstance(node.func, ast.Name) and node.func.id in GIVEN:
        for told in node.keywords:
            if told.arg not in ("key", "reverse", "default", "start", "strict"):
                say("L22", node, told.arg)
    if isinstance(node.func, ast.Name) and node.func.id in ("open", "print", "eval", "exec", "id", "hash", "vars"):
        say("L8", node)


def sets(file, say):
    """L24: a set is written where it is asked, or stored once in a local name that is not handed on."""
    for node in file.nodes:
        made = isinstance(node, (ast.Set, ast.SetComp)) or (
            isinstance(node, ast.Call) and isinstance(node.func, ast.Name) and node.func.id == "set")
        if not made:
            continue
        around = file.parents[node]
        if isinstance(around, ast.Call) and isinstance(around.func, ast.Name) and around.func.id in ("sorted", "len"):
            continue
        if isinstance(around, ast.Compare):
            continue
        if not isinstance(around, ast.Assign) or not isinstance(around.targets[0], ast.Name):
            say("L24", node)
            continue
        name = around.targets[0].id
        for use in ast.walk(file.function_of(node)):
            if isinstance(use, ast.Name) and use.id == name and use is not around.targets[0]:
                over = file.parents[use]
                called = isinstance(over, ast.Call) and isinstance(over.func, ast.Name) and over.func.id in (
                    "len", "sorted")
                grown = isinstance(over, ast.Attribute) and over.attr in ("add", "discard")
                if not (called or grown or isinstance(over, (ast.Compare, ast.If, ast.While))):
                    say("L24", use, name)


def both_ways(package, shared, generators, found):
    """L18: a name may be a method of one class and an attribute of another one that is no relative, called with care."""
    has, bases = {}, {}
    for file in package:
        for node in file.nodes:
            if isinstance(node, ast.ClassDef):
                methods = {one.name for one in node.body if isinstance(one, ast.FunctionDef)}
                attributes = {one.attr for one in ast.walk(node) if isinstance(one, ast.Attribute)
                              and isinstance(one.ctx, ast.Store) and getattr(one.value, "id", "") == "self"}
                has[node.name] = (methods, attributes)
                bases[node.name] = [one.id for one in node.bases if isinstance(one, ast.Name)]
    for name in has:
        family, left = [], [name]
        while left:
            family.append(left.pop())
            left += [base for base in bases.get(family[-1], []) if base in has]
        methods = set().union(*[has[one][0] for one in family])
        attributes = set().union(*[has[one][1] for one in family])
        for both in methods & attributes:
            found.append(f"L18 {both} is a method and an attribute of {name}")
    for file in package:
        for node in file.nodes:
            if isinstance(node, ast.FunctionDef) and node.name in shared and (
                    node.decorator_list or node.name in generators):
                found.append(f"L18 {file.path.name}:{node.lineno} {node.name}")
            if isinstance(node, ast.Attribute) and getattr(node.value, "id", None) in has and node.attr != "__init__" \
                    and node.attr in has[node.value.id][0]:
                found.append(f"L18 {file.path.name}:{node.lineno} {node.attr} is read off a class")
            if isinstance(node, ast.Call) and getattr(node.func, "attr", None) in shared:
                around = file.function_of(node)
                if around.name.startswith("__") and around.name not in ("__init__", "__call__") or any(
                        isinstance(one, ast.Try) for one in ast.walk(around)):
                    found.append(f"L18 {file.path.name}:{node.lineno} {node.func.attr}")


def across(package, found):
    """What only shows over all files: methods and attributes that exist, generators, rings of imports."""
    methods, attributes, generators, functions = set(), set(), set(), []
    for file in package:
        for node in file.nodes:
            if isinstance(node, ast.FunctionDef):
                functions.append(node.name)
                if isinstance(file.parents[node], ast.ClassDef):
                    methods.add(node.name)
                if any(isinstance(one, (ast.Yield, ast.YieldFrom)) for one in ast.walk(node)):
                    generators.add(node.name)
            if isinstance(node, ast.Attribute) and isinstance(node.ctx, ast.Store):
                attributes.add(node.attr)
    for name in generators:
        if functions.count(name) > 1 or name in METHODS:
            found.append(f"L23 the generator's name {name} stands twice")
    both_ways(package, methods & attributes, generators, found)
    for file in package:
        for node in file.nodes:
            if not isinstance(node, ast.Attribute) or not isinstance(node.ctx, ast.Load):
                continue
            called = isinstance(file.parents[node], ast.Call) and file.parents[node].func is node
            if called and node.attr not in methods | METHODS | {"__init__"}:
                found.append(f"L25 {file.path.name}:{node.lineno} {node.attr}")
            if not called and node.attr not in attributes:
                found.append(f"L18 {file.path.name}:{node.lineno} {node.attr}")
        for node in file.nodes:
            if isinstance(node, ast.Call):
                name = getattr(node.func, "id", getattr(node.func, "attr", None))
                around = file.parents[node]
                looped = isinstance(around, (ast.For, ast.comprehension)) and around.iter is node
                if name in generators and not looped and not isinstance(around, (ast.Call, ast.YieldFrom)):
                    found.append(f"L23 {file.path.name}:{node.lineno} {name}")
    reads = {file.path.stem: [node.module.split(".")[1] for node in file.tree.body if isinstance(node, ast.ImportFrom)]
             for file in package}
    left = dict(reads)
    while left:
        free = [name for name in left if not any(other in left for other in left[name])]
        if not free:
            found.append(f"L16 a ring of imports among {sorted(left)}")
            break
        for name in free:
            del left[name]
