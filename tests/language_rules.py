"""The rules of LANGUAGE.md for the package, as far as a test can see them.

Where a rule lets a thing only under conditions that are not looked at here, and the package does
without it, the thing is refused as a whole.
"""

import ast
import builtins
import io
import re
import tokenize

PACKAGE = "afloatintime"

LIBRARY = {
    "heapq": "heappush heappop heapify heapreplace heappushpop".split(),
    "math": "gcd lcm isqrt comb perm factorial".split(),
    "itertools": "product combinations permutations".split(),
}

STATEMENTS = (
    ast.FunctionDef, ast.ClassDef, ast.Return, ast.Delete, ast.Assign, ast.AugAssign, ast.For, ast.While, ast.If,
    ast.Raise, ast.Try, ast.Assert, ast.ImportFrom, ast.Expr, ast.Pass, ast.Break, ast.Continue,
)  # fmt: skip

EXPRESSIONS = (
    ast.BoolOp, ast.BinOp, ast.UnaryOp, ast.Lambda, ast.IfExp, ast.Dict, ast.ListComp, ast.DictComp, ast.Compare,
    ast.Call, ast.JoinedStr, ast.FormattedValue, ast.Constant, ast.Attribute, ast.Subscript, ast.Starred, ast.Name,
    ast.List, ast.Tuple, ast.Slice,
)  # fmt: skip

CALLED = """len range enumerate zip min max sum abs sorted reversed int str bool list tuple dict isinstance ord
repr any all divmod""".split()

ERRORS = """Exception ValueError TypeError KeyError IndexError LookupError ZeroDivisionError ArithmeticError
OverflowError RuntimeError NotImplementedError""".split()

KINDS = "int str bool bytes list tuple dict".split()

KEYWORDS = {
    "sorted": {"key", "reverse"},
    "min": {"key", "default"},
    "max": {"key", "default"},
    "sum": {"start"},
    "enumerate": {"start"},
    "zip": {"strict"},
}

ON_THE_SPOT = {"zip", "enumerate", "reversed", "range"}
VIEWS = {"items", "keys", "values"}
TAKERS = {"list", "tuple", "dict", "sorted", "sum", "any", "all", "enumerate", "zip", "min", "max", "len", "reversed"}

METHODS = set(
    """append clear copy count endswith extend find get index insert isalnum isalpha isdigit islower isspace isupper
    items join keys ljust lower lstrip partition pop remove replace reverse rfind rjust rpartition rsplit rstrip
    setdefault split splitlines startswith strip update upper values zfill bit_length title capitalize swapcase casefold
    center expandtabs removeprefix removesuffix rindex isascii isdecimal isnumeric istitle isidentifier isprintable
    """.split()
)

CHANGING = {"append", "clear", "extend", "insert", "pop", "remove", "reverse", "setdefault", "update"}

BARRED_ATTRIBUTES = set(
    """items keys values pop update append clear extend insert remove reverse setdefault sort args encode decode hex
    fromhex format as_integer_ratio bit_count conjugate from_bytes is_integer to_bytes format_map mro""".split()
)

DUNDERS = set("__init__ __eq__ __repr__ __str__ __len__ __call__".split())

NOWHERE = set("register mro elements open input law version_info with_traceback add_note".split())

NO_VARIABLES = set(
    """attrgetter breakpoint builtins compile copyright credits delattr dir eval exec exit gc getattr globals hasattr
    help id importlib license locals methodcaller os quit setattr super type vars sys __name__""".split()
)

WORDS = re.compile(
    r"\b(type|typing|typing_extensions|enum|Enum|IntEnum|StrEnum|Flag|IntFlag|Generic|Protocol|ABC|ABCMeta|namedtuple"
    r"|NamedTuple|TypedDict|TYPE_CHECKING|abstractmethod)\b|dataclass|overload|contextmanager"
)

# Python binds _ among its builtins where a run shows what it tells; it is none of them.
BUILTINS = set(dir(builtins)) - {"_"}

NAME = re.compile(r"_?[A-Za-z][A-Za-z0-9_]*")
BARRED_NAMES = re.compile(
    r"(_wall|_pe_|_dcw_|_enum_|_cm_|_twin_re_|_lay_|_law_|_stub_|_sre|_WallAttr)"
    r"|(_cold|_tuplegetter|_outside|_record|_written_out|_member_names)[0-9_]*$|(f|tb|co|gi|cr|ag)_[a-z]+$"
)

FILE_NAME = re.compile(r"[a-z][a-z0-9_]*\.py")
BARRED_FILES = re.compile(r"law_.*|tests?|testing|test_.*|site|conftest|sitecustomize|usercustomize")

MOST_FUNCTION, MOST_FILE, MOST_LINE = 40, 399, 120


class File:
    """One file of the package: its text, its tree, and what each part of the tree stands in."""

    def __init__(self, name, text):
        self.name = name
        self.text = text
        self.lines = text.split("\n")
        self.tree = ast.parse(text)
        self.above = {}
        for node in ast.walk(self.tree):
            for part in ast.iter_child_nodes(node):
                self.above[part] = node

    def all(self, *kinds):
        return [node for node in ast.walk(self.tree) if isinstance(node, kinds)]

    def docstrings(self):
        found = set()
        for node in self.all(ast.Module, ast.FunctionDef, ast.ClassDef):
            held = node.body[0].value if node.body and isinstance(node.body[0], ast.Expr) else None
            if isinstance(held, ast.Constant) and isinstance(held.value, str):
                found.add(held)
        return found

    def strings(self):
        """All strings but docstrings."""
        held = self.docstrings()
        return [node for node in self.all(ast.Constant) if isinstance(node.value, str) and node not in held]

    def imports(self):
        """{name: module} of all that is imported from the package."""
        found = {}
        for node in self.all(ast.ImportFrom):
            if (node.module or "").startswith(PACKAGE):
                found.update({alias.name: node.module for alias in node.names})
        return found

    def imported(self):
        return {alias.name for node in self.all(ast.ImportFrom) for alias in node.names}

    def top(self):
        """All names that are bound at module level, in sequence, imports included."""
        found = []
        for node in self.tree.body:
            if isinstance(node, (ast.FunctionDef, ast.ClassDef)):
                found.append(node.name)
            if isinstance(node, ast.Assign):
                found.extend(target.id for target in node.targets if isinstance(target, ast.Name))
            if isinstance(node, ast.ImportFrom):
                found.extend(alias.name for alias in node.names)
        return found

    def inner(self):
        """(node, name) for all parameters, local variables and nested functions."""
        found = [(node, node.arg) for node in self.all(ast.arg)]
        for node in self.all(ast.Name):
            if isinstance(node.ctx, ast.Store) and self.function_of(node):
                found.append((node, node.id))
        for node in self.all(ast.FunctionDef):
            if self.function_of(node):
                found.append((node, node.name))
        found.extend((node, node.name) for node in self.all(ast.ExceptHandler) if node.name)
        return found

    def function_of(self, node):
        """The function, lambda or comprehension in which this stands; None outside of all."""
        while node in self.above:
            node = self.above[node]
            if isinstance(node, (ast.FunctionDef, ast.Lambda, ast.ListComp, ast.DictComp)):
                return node
        return None


class Package:
    """All files together, and the names that they define."""

    def __init__(self, texts):
        self.files = [File(name, text) for name, text in sorted(texts.items())]
        every = [(file, node) for file in self.files for node in file.all(ast.FunctionDef, ast.ClassDef)]
        self.classes = {node.name: node for _, node in every if isinstance(node, ast.ClassDef)}
        self.functions = {
            node.name for file, node in every if isinstance(node, ast.FunctionDef) and node in file.tree.body
        }
        self.methods = {part.name for node in self.classes.values() for part in node.body if hasattr(part, "name")}
        self.attributes = {
            node.attr for file in self.files for node in file.all(ast.Attribute) if isinstance(node.ctx, ast.Store)
        }

    def is_error(self, name):
        """Whether this is the name of an error class of the package."""
        node = self.classes.get(name)
        bases = [base.id for base in node.bases if isinstance(base, ast.Name)] if node else []
        return any(base in ERRORS or self.is_error(base) for base in bases)


def sizes(file, package):
    """L10."""
    if len(file.text.splitlines()) > MOST_FILE:
        yield "L10", 1, "a file too long"
    for number, line in enumerate(file.lines, start=1):
        if len(line) > MOST_LINE or "\t" in line:
            yield "L10", number, "a line too long, or a tab"
    for node in file.all(ast.FunctionDef):
        if node.end_lineno - node.lineno + 1 > MOST_FUNCTION:
            yield "L10", node.lineno, f"function {node.name} too long"


def signs(file, package):
    """L14, L27: characters, escapes, and what strings may not hold."""
    for number, line in enumerate(file.lines, start=1):
        if not all(" " <= sign <= "~" for sign in line):
            yield "L14", number, "a sign that is not let"
    if "_wall" in file.text or "_WallAttr" in file.text:
        yield "L12", 1, "a barred word"
    kinds = (tokenize.STRING, getattr(tokenize, "FSTRING_MIDDLE", tokenize.STRING))
    for token in tokenize.generate_tokens(io.StringIO(file.text).readline):
        if token.type in kinds and re.sub(r"\\[nt\\'\"]", "", token.string).count("\\"):
            yield "L27", token.start[0], "an escape that is not let"
    for node in file.strings():
        text = node.value
        if "%" in text or text.endswith(("._", ".__")) or (text.startswith("__") and text.endswith("__")):
            yield "L27", node.lineno, "a string that is not let"
        if WORDS.search(text):
            yield "L17", node.lineno, "a barred word in a string"


def files(file, package):
    """L1, L14: names of files."""
    stem = file.name.removesuffix(".py")
    if file.name == "__init__.py":
        return
    if not FILE_NAME.fullmatch(file.name) or BARRED_FILES.fullmatch(stem) or stem in BUILTINS or stem in NOWHERE:
        yield "L14", 1, "a file's name that is not let"


def imports(file, package):
    """L2, L16."""
    known = {f"{PACKAGE}.{other.name.removesuffix('.py')}": other for other in package.files}
    seen_other = False
    for at, node in enumerate(file.tree.body):
        docstring = at == 0 and isinstance(node, ast.Expr)
        if not isinstance(node, ast.ImportFrom):
            seen_other = seen_other or not docstring
        elif seen_other:
            yield "L2", node.lineno, "an import that does not stand at the top"
    for node in file.all(ast.Import):
        yield "L2", node.lineno, "an import of a module"
    for node in file.all(ast.ImportFrom):
        for alias in node.names:
            if alias.asname or alias.name == "*" or node.level:
                yield "L2", node.lineno, "an import of another form"
            elif node.module in LIBRARY:
                if alias.name not in LIBRARY[node.module]:
                    yield "L2", node.lineno, f"{alias.name} of the library"
            elif node.module not in known:
                yield "L2", node.lineno, f"an import from {node.module}"
            elif alias.name not in set(known[node.module].top()) - known[node.module].imported():
                yield "L16", node.lineno, f"{alias.name} is not defined in {node.module}"
    if leads_back(file, known):
        yield "L16", 1, "files that import from each other"


def leads_back(file, known):
    found, ahead = set(), [file]
    while ahead:
        for module in set(ahead.pop().imports().values()):
            if module in known and module not in found:
                found.add(module)
                ahead.append(known[module])
    return f"{PACKAGE}.{file.name.removesuffix('.py')}" in found


def module_level(file, package):
    """L3, L15."""
    for at, node in enumerate(file.tree.body):
        docstring = at == 0 and node.__class__ is ast.Expr and file.docstrings() >= {node.value}
        plain = isinstance(node, ast.Assign) and len(node.targets) == 1 and isinstance(node.targets[0], ast.Name)
        if not (docstring or plain or isinstance(node, (ast.ImportFrom, ast.FunctionDef, ast.ClassDef))):
            yield "L3", node.lineno, "a statement at module level"
        if plain and not is_plain(node.value):
            yield "L3", node.lineno, "a value at module level that is not plain"
    names = file.top()
    for name in sorted({name for name in names if names.count(name) > 1}):
        yield "L15", 1, f"{name} is bound more than once"
    for node in file.all(ast.ClassDef):
        if node not in file.tree.body:
            yield "L15", node.lineno, "a class that is not at module level"


def is_plain(node, inner=False):
    if isinstance(node, ast.UnaryOp):
        return isinstance(node.op, ast.USub) and isinstance(node.operand, ast.Constant)
    if isinstance(node, (ast.List, ast.Dict)) and inner:
        return False
    if isinstance(node, ast.Dict):
        keys = all(isinstance(key, ast.Constant) for key in node.keys)
        return keys and all(is_plain(own, True) for own in node.values)
    if isinstance(node, (ast.List, ast.Tuple)):
        return all(is_plain(part, True) for part in node.elts)
    return isinstance(node, (ast.Constant, ast.Name))


def syntax(file, package):
    """L6, L7: only statements and expressions of the subset."""
    for node in ast.walk(file.tree):
        if isinstance(node, ast.stmt) and not isinstance(node, STATEMENTS):
            yield "L6", node.lineno, f"a statement {node.__class__.__name__}"
        if isinstance(node, ast.expr) and not isinstance(node, EXPRESSIONS):
            yield "L7", node.lineno, f"an expression {node.__class__.__name__}"
        if isinstance(node, ast.Constant) and not isinstance(node.value, (int, str, type(None))):
            yield "L7", node.lineno, "a value of another kind"
        if isinstance(node, (ast.BinOp, ast.AugAssign)) and isinstance(node.op, (ast.Div, ast.MatMult)):
            yield "L7", node.lineno, "/ or @"
        if isinstance(node, ast.BinOp) and isinstance(node.op, ast.Pow) and not is_small(node.right):
            yield "L27", node.lineno, "an exponent that is no literal from 0 to 64"
        if isinstance(node, ast.FormattedValue) and (node.format_spec or node.conversion != -1):
            yield "L7", node.value.lineno, "a format"
        if isinstance(node, (ast.ListComp, ast.DictComp)) and not file.function_of(node):
            yield "L7", node.lineno, "a comprehension outside of functions"
        if isinstance(node, (ast.AnnAssign, ast.arg)) and node.annotation or getattr(node, "returns", None):
            yield "L21", node.lineno, "an annotation"
        if isinstance(node, ast.Expr) and not isinstance(node.value, ast.Call) and node.value not in file.docstrings():
            yield "L6", node.lineno, "a statement that does nothing"
        if isinstance(node, ast.Compare) and not plain_is(node):
            yield "L20", node.lineno, "is with something else than None, True and False"


def is_small(node):
    return isinstance(node, ast.Constant) and isinstance(node.value, int) and 0 <= node.value <= 64


def plain_is(node):
    sides = [node.left] + node.comparators
    return all(
        not isinstance(op, (ast.Is, ast.IsNot))
        or any(isinstance(side, ast.Constant) and side.value in (None, True, False) for side in sides)
        for op in node.ops
    )


def functions(file, package):
    """L4."""
    for node in file.all(ast.FunctionDef, ast.Lambda):
        arguments = node.args
        if getattr(node, "decorator_list", None):
            yield "L4", node.lineno, "a decorator"
        if arguments.vararg or arguments.kwarg or arguments.posonlyargs:
            yield "L4", node.lineno, "parameters of another form"
        for value in arguments.defaults + [value for value in arguments.kw_defaults if value]:
            if not is_plain(value) or isinstance(value, (ast.List, ast.Dict, ast.Name)):
                yield "L4", node.lineno, "a default value that is not plain"
    for line in {node.lineno for node in file.all(ast.Lambda)}:
        if len([node for node in file.all(ast.Lambda) if node.lineno == line]) > 1:
            yield "L13", line, "two lambdas on a line"


def classes(file, package):
    """L5, L18, L28."""
    for node in file.all(ast.ClassDef):
        names = [base.id for base in node.bases if isinstance(base, ast.Name)]
        if node.decorator_list or node.keywords or len(names) != len(node.bases) or len(names) > 1:
            yield "L5", node.lineno, "a class of another form"
        if any(name not in package.classes and name not in ERRORS for name in names):
            yield "L18", node.lineno, "a base class that is none of the package"
        made = [part.name for part in node.body if isinstance(part, ast.FunctionDef)]
        for part in node.body:
            if not isinstance(part, ast.FunctionDef) and getattr(part, "value", None) not in file.docstrings():
                yield "L5", part.lineno, "a class value"
        for name in made:
            if made.count(name) > 1 or (name.startswith("__") and name not in DUNDERS) or name in package.attributes:
                yield "L18", node.lineno, f"method {name}"
        for part in node.body:
            if isinstance(part, ast.FunctionDef) and part.name == "__init__":
                if any(isinstance(own, ast.Return) and own.value for own in ast.walk(part)):
                    yield "L28", part.lineno, "__init__ returns something"
            if isinstance(part, ast.FunctionDef) and part.name in ("__repr__", "__str__", "__len__"):
                if not isinstance(part.body[-1], ast.Return):
                    yield "L28", part.lineno, f"{part.name} does not end with a return"


def names(file, package):
    """L12, L15, L17."""
    bound = [(node, node.name) for node in file.all(ast.FunctionDef, ast.ClassDef)]
    bound += file.inner() + [(node, node.id) for node in file.all(ast.Name)]
    bound += [(node, node.attr) for node in file.all(ast.Attribute)]
    bound += [(node.value, node.arg) for node in file.all(ast.keyword) if node.arg]
    for node, name in bound:
        if name in NOWHERE or BARRED_NAMES.match(name):
            yield "L17", node.lineno, f"the name {name}"
        if name != "_" and not NAME.fullmatch(name) and name not in DUNDERS:
            yield "L12", node.lineno, f"the name {name}"
    made = {node.name for node in file.all(ast.ClassDef)} | file.imported()
    own = [(node, node.name) for node in file.all(ast.FunctionDef, ast.ClassDef) if node in file.tree.body]
    own += [(node, node.id) for node in file.all(ast.Name) if isinstance(node.ctx, ast.Store)] + file.inner()
    for node, name in own:
        if name in BUILTINS:
            yield "L15", node.lineno, f"{name} is a builtin"
        if name in NO_VARIABLES:
            yield "L17", node.lineno, f"the name {name}"
    for node, name in file.inner():
        if name in made:
            yield "L15", node.lineno, f"{name} is a class or an import"
    for node in file.all(ast.Name):
        if node.id == "_" and isinstance(node.ctx, ast.Load):
            yield "L12", node.lineno, "_ is read"
        if node.id == "_" and not file.function_of(node):
            yield "L12", node.lineno, "_ at module level"


def used_builtins(file, package):
    """L8, L22: which builtins are used, and that they are called."""
    own = set(file.top()) | {name for _, name in file.inner()}
    for node in file.all(ast.Name):
        name, above = node.id, file.above[node]
        if name in own or name == "_" or not isinstance(node.ctx, ast.Load):
            continue
        called = isinstance(above, ast.Call) and above.func is node
        if name in ERRORS:
            if not (isinstance(above, (ast.ClassDef, ast.ExceptHandler, ast.Raise)) or called):
                yield "L8", node.lineno, f"{name} as a value"
        elif name not in CALLED:
            yield "L8", node.lineno, f"the name {name}"
        elif not called and not is_key(file, node) and not (name in KINDS and in_isinstance(file, node)):
            yield "L22", node.lineno, f"{name} is not called"
    for node in file.all(ast.Call):
        if isinstance(node.func, ast.Constant):
            yield "L7", node.lineno, "a literal is called"
        if isinstance(node.func, ast.Name) and node.func.id in CALLED and node.func.id not in own:
            for keyword in node.keywords:
                if keyword.arg not in KEYWORDS.get(node.func.id, ()):
                    yield "L22", node.lineno, f"keyword {keyword.arg} of {node.func.id}"


def is_key(file, node):
    return isinstance(file.above[node], ast.keyword) and file.above[node].arg == "key"


def in_isinstance(file, node):
    above = file.above[node]
    if isinstance(above, ast.Tuple):
        above = file.above[above]
    return isinstance(above, ast.Call) and isinstance(above.func, ast.Name) and above.func.id == "isinstance"


def methods(file, package):
    """L25, L26: which methods are called, and how attributes are called."""
    for node in file.all(ast.Attribute):
        above = file.above[node]
        called = isinstance(above, ast.Call) and above.func is node
        if isinstance(node.ctx, ast.Store) and node.attr in BARRED_ATTRIBUTES:
            yield "L26", node.lineno, f"attribute {node.attr}"
        if called and node.attr not in METHODS | package.methods:
            yield "L25", node.lineno, f"method {node.attr}"
        if not called and node.attr not in package.attributes:
            yield "L18", node.lineno, f"attribute {node.attr} that no class assigns"
        if called and node.attr in METHODS - package.methods and above.keywords:
            yield "L25", node.lineno, f"keywords of {node.attr}"


def iterated(file, package):
    """L23: zip and its kind are iterated at once, and what is iterated is not changed."""
    for node in file.all(ast.Call):
        spot = isinstance(node.func, ast.Name) and node.func.id in ON_THE_SPOT
        view = isinstance(node.func, ast.Attribute) and node.func.attr in VIEWS and not node.args
        above = file.above[node]
        taken = isinstance(above, ast.Call) and isinstance(above.func, ast.Name) and above.func.id in TAKERS
        looped = isinstance(above, (ast.For, ast.comprehension)) and above.iter is node
        if (spot or view) and not (looped or taken):
            yield "L23", node.lineno, "something that is not iterated at once"
    for node in file.all(ast.For):
        over = {ast.unparse(part) for part in ast.walk(node.iter) if isinstance(part, (ast.Name, ast.Attribute))}
        copied = isinstance(node.iter, ast.Call) and ast.unparse(node.iter.func) == "list"
        for part in node.body if not copied else ():
            for line, changed in changes(part):
                if changed in over:
                    yield "L23", line, f"{changed} is changed while it is iterated"


def changes(statement):
    """(line, what) for all lists and dicts that this statement changes."""
    for node in ast.walk(statement):
        if isinstance(node, ast.Subscript) and isinstance(node.ctx, (ast.Store, ast.Del)):
            yield node.lineno, ast.unparse(node.value)
        if isinstance(node, ast.Call) and isinstance(node.func, ast.Attribute) and node.func.attr in CHANGING:
            yield node.lineno, ast.unparse(node.func.value)
        if isinstance(node, ast.AugAssign):
            yield node.lineno, ast.unparse(node.target)


def raised(file, package):
    """L19."""
    for node in file.all(ast.Raise):
        made = isinstance(node.exc, ast.Call) and isinstance(node.exc.func, ast.Name)
        bare = node.exc is None and any(node in ast.walk(handler) for handler in file.all(ast.ExceptHandler))
        if node.cause or not (bare or (made and (package.is_error(node.exc.func.id) or node.exc.func.id in ERRORS))):
            yield "L19", node.lineno, "raise of something that is not made on the spot"
    for node in file.all(ast.ExceptHandler):
        caught = node.type.elts if isinstance(node.type, ast.Tuple) else [node.type]
        for kind in caught:
            name = kind.id if isinstance(kind, ast.Name) else ""
            if not package.is_error(name) and name not in ("KeyError", "ZeroDivisionError"):
                yield "L19", node.lineno, "an error that is not caught here"


def finals(file, package):
    """L6: a finally puts names and attributes back, and does nothing else."""
    for node in file.all(ast.Try):
        for part in node.finalbody:
            yield from final_faults(part)
        function = file.function_of(node)
        ahead = {own.arg for own in ast.walk(function.args) if isinstance(own, ast.arg)} if node.finalbody else ()
        for own in ast.walk(function) if node.finalbody else ():
            if isinstance(own, ast.Name) and isinstance(own.ctx, ast.Store) and own.lineno < node.lineno:
                ahead.add(own.id)
        for part in node.finalbody:
            for own in ast.walk(part):
                if isinstance(own, ast.Name) and isinstance(own.ctx, ast.Load) and own.id not in ahead:
                    yield "L6", own.lineno, f"{own.id} is read in a finally, and not assigned ahead of the try"


def final_faults(node):
    """What breaks the rule in one statement of a finally."""
    if isinstance(node, ast.If):
        if not is_none_test(node.test):
            yield "L6", node.lineno, "a test in a finally"
        for part in node.body + node.orelse:
            yield from final_faults(part)
    elif isinstance(node, ast.Assign):
        if len(node.targets) > 1 or not is_put_back(node.targets[0]) or not is_put_back(node.value):
            yield "L6", node.lineno, "an assignment in a finally"
    elif isinstance(node, ast.AugAssign):
        literal = isinstance(node.value, ast.Constant) and isinstance(node.value.value, int)
        if not isinstance(node.op, (ast.Add, ast.Sub)) or not is_held(node.target) or not literal:
            yield "L6", node.lineno, "an assignment in a finally"
    elif not isinstance(node, ast.Pass):
        yield "L6", node.lineno, "a statement in a finally"


def is_none_test(node):
    if not isinstance(node, ast.Compare) or len(node.ops) != 1 or not is_held(node.left):
        return False
    other = node.comparators[0]
    return isinstance(node.ops[0], (ast.Is, ast.IsNot)) and isinstance(other, ast.Constant) and other.value is None


def is_held(node):
    """Whether this is a name, or an attribute off one."""
    while isinstance(node, ast.Attribute):
        node = node.value
    return isinstance(node, ast.Name)


def is_put_back(node):
    """Whether this is a name, an attribute, a literal without a sign, or several of these side by side."""
    if isinstance(node, ast.Tuple):
        return all(is_put_back(part) and not isinstance(part, ast.Tuple) for part in node.elts)
    return is_held(node) or isinstance(node, ast.Constant)


def class_values(file, package):
    """L18: classes are called, are base classes, or stand in isinstance, except and raise."""
    for node in file.all(ast.Name):
        if node.id in package.classes and isinstance(node.ctx, ast.Load):
            above = file.above[node]
            called = isinstance(above, ast.Call) and above.func is node
            listed = isinstance(above, ast.Tuple) and isinstance(file.above[above], ast.ExceptHandler)
            alone = isinstance(above, (ast.ClassDef, ast.ExceptHandler))
            if not (called or listed or alone or in_isinstance(file, node)):
                yield "L18", node.lineno, f"class {node.id} as a value"


RULES = (
    sizes, signs, files, imports, module_level, syntax, functions, classes, names, used_builtins, methods, iterated,
    raised, finals, class_values,
)  # fmt: skip


def faults(texts):
    """All faults of a package, given as {file name: text}: lines (rule, file name, number, what)."""
    package = Package(texts)
    found = []
    for file in package.files:
        for look in RULES:
            found.extend((rule, file.name, line, what) for rule, line, what in look(file, package))
    return found
