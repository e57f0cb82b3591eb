"""The rules of the language, L1 to L28, as far as they can be told from the text of the files.

Some checks are stricter than their rule, where the program has no need of what the rule allows.
"""

import ast
import builtins
import io
import re
import tokenize

PACKAGE = "sureplace"

LIBRARY = {
    "heapq": {"heappush", "heappop", "heapify", "heapreplace", "heappushpop"},
    "math": {"gcd", "lcm", "isqrt", "comb", "perm", "factorial"},
    "itertools": {"product", "combinations", "permutations", "chain", "accumulate", "pairwise", "islice",
                  "zip_longest"},
    "collections": {"defaultdict"},
}
BUILTINS = set(
    "len range enumerate zip min max sum abs sorted reversed int str bool bytes list tuple dict set frozenset "
    "isinstance ord repr any all divmod pow getattr hasattr setattr iter next map super Exception ValueError "
    "TypeError KeyError IndexError LookupError ZeroDivisionError ArithmeticError OverflowError RuntimeError "
    "NotImplementedError AttributeError StopIteration NotImplemented".split())
METHODS = set(
    "append clear copy count endswith extend find get index insert isalnum isalpha isdigit islower isspace isupper "
    "items join keys ljust lower lstrip partition pop remove replace reverse rfind rjust rpartition rsplit rstrip "
    "setdefault split splitlines startswith strip update upper values zfill bit_length title capitalize swapcase "
    "casefold center expandtabs removeprefix removesuffix rindex isascii isdecimal isnumeric istitle isidentifier "
    "isprintable add discard sort".split())
ATTRIBUTES_NOT_USED = set(
    "items keys values pop update append clear extend insert remove reverse setdefault sort args encode decode hex "
    "fromhex format format_map mro".split())
NAMES_NOT_USED = set(
    "register mro elements open input law version_info with_traceback add_note attrgetter breakpoint builtins compile "
    "copyright credits delattr dir eval exec exit gc globals help id importlib license locals methodcaller os quit "
    "type vars sys _cold _tuplegetter _outside _record _written_out _member_names".split())
BEGINNINGS_NOT_USED = ("__", "_wall", "_pe_", "_dcw_", "_enum_", "_cm_", "_twin_re_", "_lay_", "_law_", "_stub_",
                       "_sre", "_WallAttr")
WORDS_NOT_USED = set(
    "type typing typing_extensions enum Enum IntEnum StrEnum Flag IntFlag Generic Protocol ABC ABCMeta namedtuple "
    "NamedTuple TypedDict TYPE_CHECKING abstractmethod".split())
DOUBLE = set(
    "__init__ __eq__ __repr__ __str__ __len__ __enter__ __exit__ __call__ __iter__ __lt__ __le__ __gt__ __ge__ __ne__ "
    "__add__ __sub__ __mul__ __floordiv__ __mod__ __and__ __or__ __xor__ __neg__ __bool__ __contains__ __getitem__ "
    "__setitem__".split())
STATEMENTS = (
    ast.FunctionDef, ast.ClassDef, ast.Return, ast.Delete, ast.Assign, ast.AugAssign, ast.For, ast.While, ast.If,
    ast.With, ast.Match, ast.Raise, ast.Try, ast.Assert, ast.ImportFrom, ast.Nonlocal, ast.Expr, ast.Pass, ast.Break,
    ast.Continue)
MODULE_STATEMENTS = (ast.Expr, ast.ImportFrom, ast.FunctionDef, ast.ClassDef, ast.Assign)
DECORATORS = ("property", "staticmethod", "classmethod")
AT_ONCE = ("zip", "enumerate", "reversed", "range")
TAKERS = {"list", "tuple", "dict", "sorted", "sum", "any", "all", "enumerate", "zip", "min", "max", "len", "reversed",
          "map"}
# What may iterate over a generator, in a package with a class that compares.
ITERATE = {"list", "tuple", "dict", "enumerate", "zip"}
MODIFY = {"append", "clear", "extend", "insert", "pop", "remove", "reverse", "setdefault", "sort", "update", "add",
          "discard"}
CATCHES = {"KeyError", "ZeroDivisionError", "ValueError", "LookupError", "IndexError", "StopIteration"}
PYTHONS_ERRORS = {name for name, worth in vars(builtins).items()
                  if isinstance(worth, type) and issubclass(worth, BaseException)}
KEYWORDS = {"sorted": {"key", "reverse"}, "min": {"key", "default"}, "max": {"key", "default"}, "sum": {"start"},
            "enumerate": {"start"}, "zip": {"strict"}}
FOLDERS_NOT_USED = ("law_", "test_")
FILES_NOT_USED = {"test", "tests", "testing", "site", "conftest", "sitecustomize", "usercustomize"}


class File:
    """A file of the package: where it stands, its text, and what Python reads in it."""

    def __init__(self, name, text):
        self.name = name
        self.text = text
        self.module = name[:-len(".py")].replace("/", ".").removesuffix(".__init__")
        self.tree = ast.parse(text)
        self.nodes = list(ast.walk(self.tree))
        self.parents = {child: node for node in self.nodes for child in ast.iter_child_nodes(node)}

    def of(self, *kinds):
        return [node for node in self.nodes if isinstance(node, kinds)]

    def parent(self, node):
        return self.parents.get(node)

    def defined(self):
        """The names of the functions, classes and values at module level."""
        names = [node.name for node in self.tree.body if isinstance(node, (ast.FunctionDef, ast.ClassDef))]
        return names + [target.id for node in self.tree.body if isinstance(node, ast.Assign)
                        for target in node.targets if isinstance(target, ast.Name)]

    def imported(self):
        return [alias.asname or alias.name for node in self.of(ast.ImportFrom) for alias in node.names]

    def is_docstring(self, node):
        if not isinstance(node, ast.Constant) or not isinstance(node.value, str):
            return False
        above = self.parent(node)
        holder = self.parent(above)
        return (isinstance(above, ast.Expr) and isinstance(holder, (ast.Module, ast.ClassDef, ast.FunctionDef))
                and holder.body[0] is above)


class Package:
    """All files of the package, and what they define together."""

    def __init__(self, texts):
        self.texts = texts
        self.files = [File(name, text) for name, text in sorted(texts.items()) if name.endswith(".py")]
        self.modules = {file.module: file for file in self.files}
        classes = [node for file in self.files for node in file.of(ast.ClassDef)]
        self.classes = {node.name for node in classes}
        self.bases = {node.name: [base.id for base in node.bases if isinstance(base, ast.Name)] for node in classes}
        self.methods = {node.name for one in classes for node in one.body if isinstance(node, ast.FunctionDef)}
        functions = [node for file in self.files for node in file.of(ast.FunctionDef)]
        self.names = [node.name for node in functions]
        self.generators = {node.name for node in functions if is_generator(node)}
        self.attributes = {node.attr for file in self.files for node in file.of(ast.Attribute)
                           if isinstance(node.ctx, ast.Store)}

    def is_error(self, name):
        return name in PYTHONS_ERRORS or any(self.is_error(base) for base in self.bases.get(name, ()))

    def compares(self):
        return bool(self.methods & {"__eq__", "__len__"})


def name_of(node):
    return node.id if isinstance(node, ast.Name) else None


def bound(file):
    """Every name that the file gives a meaning, with its node; attributes apart."""
    for node in file.nodes:
        if isinstance(node, ast.Name) and isinstance(node.ctx, (ast.Store, ast.Del)):
            yield node.id, node
        elif isinstance(node, (ast.FunctionDef, ast.ClassDef)):
            yield node.name, node
        elif isinstance(node, ast.arg):
            yield node.arg, node
        elif isinstance(node, ast.ExceptHandler) and node.name:
            yield node.name, node
        elif isinstance(node, (ast.MatchAs, ast.MatchStar)) and node.name:
            yield node.name, node


def is_plain(node):
    """Is it a value that may stand at module level?"""
    if isinstance(node, (ast.List, ast.Tuple)):
        return all(is_plain(item) for item in node.elts)
    if isinstance(node, ast.Dict):
        return all(is_plain(item) for item in node.keys + node.values)
    if isinstance(node, ast.BinOp):
        return is_plain(node.left) and is_plain(node.right)
    if isinstance(node, ast.UnaryOp):
        return is_plain(node.operand)
    return isinstance(node, (ast.Constant, ast.Name))


def check_files(package):
    """L1 and L14: the names of the files, and their characters."""
    folders = {name.rpartition("/")[0] for name in package.texts}
    if len(package.texts) > 100:
        yield "L14", PACKAGE, 0, "there are more than 100 files"
    for name in package.texts:
        if not re.fullmatch(r"([a-z][a-z0-9_]*/)+(__init__|__main__|[a-z][a-z0-9_]*)\.py", name):
            yield "L1", name, 0, "no plain name of a .py file"
        parts = name.removesuffix(".py").split("/")
        for part in [part for part in parts if part not in ("__init__", "__main__")]:
            if part.startswith(FOLDERS_NOT_USED) or part in FILES_NOT_USED or hasattr(builtins, part):
                yield "L14", name, 0, f"a file or folder called {part}"
            if part in LIBRARY or part in NAMES_NOT_USED:
                yield "L14", name, 0, f"a file or folder called {part}"
        if "/".join(parts) in folders:
            yield "L14", name, 0, "a folder beside it has its name"
    for folder in folders:
        if f"{folder}/__init__.py" not in package.texts:
            yield "L14", folder, 0, "a folder without __init__.py"


def check_text(file, package):
    """L10 and L14: characters, lines and their number; L12 and L17: words that do not occur."""
    lines = file.text.split("\n")
    if len(file.text.splitlines()) > 399:
        yield "L10", 400, "the file is too long"
    for number, line in enumerate(lines, 1):
        if len(line) > 120:
            yield "L10", number, "the line is too long"
        if "\t" in line:
            yield "L10", number, "a tab"
        if any(not " " <= sign <= "~" for sign in line):
            yield "L14", number, "a character that is not from the space to the tilde"
        if re.search(r"\b(_wall|_WallAttr)\b", line):
            yield "L12", number, "a word that stands nowhere"
    docstrings = {(node.lineno, node.col_offset) for node in file.of(ast.Constant) if file.is_docstring(node)}
    for token in tokenize.generate_tokens(io.StringIO(file.text).readline):
        if token.type == tokenize.COMMENT or token.start in docstrings:
            continue
        words = set(re.findall(r"\w+", token.string))
        if words & WORDS_NOT_USED or re.search("dataclass|overload|contextmanager", token.string):
            yield "L17", token.start[0], f"the word {token.string}"


def check_imports(file, package):
    """L2 and L16: imports stand at the top, by full names, from the file that defines the name."""
    allowed = True
    for place, node in enumerate(file.tree.body):
        if isinstance(node, (ast.Import, ast.ImportFrom)):
            if not allowed:
                yield "L2", node.lineno, "an import that does not stand at the top"
        elif place > 0 or not isinstance(node, ast.Expr):
            allowed = False
    for node in file.of(ast.Import, ast.ImportFrom):
        if isinstance(node, ast.Import):
            yield "L16", node.lineno, "an import without from"
        elif file.parent(node) is not file.tree:
            yield "L2", node.lineno, "an import that does not stand at module level"
        elif node.level:
            yield "L2", node.lineno, "an import with a leading dot"
        elif node.module in LIBRARY:
            if not all(alias.name in LIBRARY[node.module] and not alias.asname for alias in node.names):
                yield "L2", node.lineno, f"from {node.module}"
        elif node.module not in package.modules:
            yield "L2", node.lineno, f"from {node.module}"
        else:
            defined = package.modules[node.module].defined()
            for alias in node.names:
                if alias.name not in defined:
                    yield "L16", node.lineno, f"{node.module} does not define {alias.name}"


def check_cycles(package):
    """L16: no two files import from each other, neither directly nor through other files."""
    needs = {}
    for file in package.files:
        modules = {node.module for node in file.of(ast.ImportFrom) if node.module in package.modules}
        above = {".".join(module.split(".")[:k]) for module in modules for k in range(1, module.count(".") + 1)}
        needs[file.module] = (modules | above) - {file.module}
    for start in needs:
        seen, waiting = set(), list(needs[start])
        while waiting:
            module = waiting.pop()
            if module not in seen:
                seen.add(module)
                waiting.extend(needs.get(module, ()))
        if start in seen:
            yield "L16", start, 0, "it imports itself through other files"


def check_module(file, package):
    """L3 and L15: what stands at module level, each name once."""
    for place, node in enumerate(file.tree.body):
        if not isinstance(node, MODULE_STATEMENTS):
            yield "L3", node.lineno, "a statement that does not stand at module level"
        elif isinstance(node, ast.Expr) and (place or not isinstance(node.value, ast.Constant)):
            yield "L3", node.lineno, "an expression at module level"
        elif isinstance(node, ast.Assign):
            if len(node.targets) > 1 or not isinstance(node.targets[0], ast.Name) or not is_plain(node.value):
                yield "L3", node.lineno, "no name that is assigned a plain value"
            inner = [part for part in ast.walk(node.value) if part is not node.value]
            if any(isinstance(part, (ast.List, ast.Dict)) for part in inner):
                yield "L15", node.lineno, "a list or dict inside a value at module level"
    names = file.defined() + file.imported()
    for name in names:
        if names.count(name) > 1:
            yield "L15", 0, f"{name} is bound twice"
    for node in file.of(ast.ClassDef):
        if file.parent(node) is not file.tree:
            yield "L15", node.lineno, "a class that is not at module level"


def check_functions(file, package):
    """L4, L5, L10 and L21: parameters, decorators, lengths, annotations."""
    for node in file.of(ast.FunctionDef):
        if node.end_lineno - node.lineno + 1 > 40:
            yield "L10", node.lineno, "the function is too long"
        in_class = isinstance(file.parent(node), ast.ClassDef)
        for decorator in node.decorator_list:
            setter = isinstance(decorator, ast.Attribute) and decorator.attr == "setter"
            if not in_class or len(node.decorator_list) > 1 or not (setter or name_of(decorator) in DECORATORS):
                yield "L4", node.lineno, "a decorator"
        if node.returns or any(arg.annotation for arg in ast.walk(node.args) if isinstance(arg, ast.arg)):
            yield "L21", node.lineno, "an annotation"
        if node.name.startswith("__") and (not in_class or node.name not in DOUBLE):
            yield "L5", node.lineno, f"the method {node.name}"
        for default in node.args.defaults + [part for part in node.args.kw_defaults if part]:
            if isinstance(default, (ast.List, ast.Dict)) or not is_plain(default):
                yield "L4", node.lineno, "a default value that is not plain"
    for node in file.of(ast.AnnAssign, ast.AsyncFunctionDef, ast.Await):
        yield "L21" if isinstance(node, ast.AnnAssign) else "L6", node.lineno, "not allowed"


def check_classes(file, package):
    """L5, L18 and L28: what stands in a class, and what __init__ returns."""
    for node in file.of(ast.ClassDef):
        names = [part.name for part in node.body if isinstance(part, ast.FunctionDef) and not part.decorator_list]
        stored = {part.attr for part in ast.walk(node) if isinstance(part, ast.Attribute)
                  and isinstance(part.ctx, ast.Store) and name_of(part.value) == "self"}
        if node.decorator_list or node.keywords:
            yield "L5", node.lineno, "a decorator or a keyword of a class"
        if any(not isinstance(base, ast.Name) for base in node.bases):
            yield "L5", node.lineno, "a base class that is no name"
        for place, part in enumerate(node.body):
            docstring = isinstance(part, ast.Expr) and place == 0 and isinstance(part.value, ast.Constant)
            if not docstring and not isinstance(part, (ast.FunctionDef, ast.Assign)):
                yield "L5", part.lineno, "a statement in a class"
        for name in names:
            if names.count(name) > 1 or name in stored:
                yield "L18", node.lineno, f"{name} is defined twice"
        for part in node.body:
            if isinstance(part, ast.FunctionDef) and part.name == "__init__":
                if any(isinstance(inner, ast.Return) for inner in ast.walk(part)):
                    yield "L28", part.lineno, "__init__ returns"
    for node in file.of(ast.Attribute):
        if isinstance(node.ctx, ast.Store) and name_of(node.value) in package.classes:
            yield "L18", node.lineno, "an attribute of a class is assigned"


def check_statements(file, package):
    """L6, L7, L13, L20 and L24: statements and expressions."""
    for node in file.nodes:
        if isinstance(node, ast.stmt) and not isinstance(node, STATEMENTS + (ast.Import, ast.AnnAssign)):
            yield "L6", node.lineno, node.__class__.__name__
        if isinstance(node, ast.Expr) and not isinstance(node.value, (ast.Call, ast.Yield, ast.YieldFrom)):
            if not file.is_docstring(node.value):
                yield "L6", node.lineno, "an expression that is no call"
        if isinstance(node, ast.Constant) and isinstance(node.value, (float, complex)):
            yield "L7", node.lineno, "a float"
        if isinstance(node, ast.BinOp) and isinstance(node.op, (ast.Div, ast.MatMult)):
            yield "L7", node.lineno, "a division"
        if isinstance(node, ast.AugAssign) and isinstance(node.op, (ast.Div, ast.MatMult)):
            yield "L7", node.lineno, "a division"
        if isinstance(node, (ast.Set, ast.SetComp)) and not isinstance(file.parent(node), (ast.Compare, ast.Assign)):
            yield "L24", node.lineno, "a set"
        if isinstance(node, ast.Set) and sum(isinstance(part, ast.Constant) for part in node.elts) > 2:
            yield "L13", node.lineno, "a set of three or more"
        if isinstance(node, ast.Compare) and any(isinstance(op, (ast.Is, ast.IsNot)) for op in node.ops):
            if not all(isinstance(part, ast.Constant) and part.value in (None, True, False)
                       for part in node.comparators):
                yield "L20", node.lineno, "is"
        if isinstance(node, ast.GeneratorExp) and package.compares():
            if name_of(getattr(file.parent(node), "func", None)) not in ("list", "tuple", "dict"):
                yield "L7", node.lineno, "a generator expression"


def check_names(file, package):
    """L8, L12, L15 and L17: names."""
    classes = {node.name for node in file.of(ast.ClassDef)}
    for name, node in bound(file):
        method = isinstance(node, ast.FunctionDef) and isinstance(file.parent(node), ast.ClassDef)
        if not re.fullmatch(r"_?[A-Za-z][A-Za-z0-9_]*|_", name) and name not in DOUBLE:
            yield "L12", node.lineno, f"the name {name}"
        if name.startswith(BEGINNINGS_NOT_USED) and not (method and name in DOUBLE):
            yield "L12", node.lineno, f"the name {name}"
        if name in NAMES_NOT_USED:
            yield "L17", node.lineno, f"the name {name}"
        if hasattr(builtins, name) and not (method and name not in BUILTINS):
            yield "L15", node.lineno, f"the name {name} of a builtin"
        if name in file.imported() or (name in classes and not isinstance(node, ast.ClassDef)):
            yield "L15", node.lineno, f"the name {name} of a class or an import"
        if isinstance(node, ast.ClassDef) and name.startswith("_"):
            yield "L12", node.lineno, f"a class called {name}"
    own = {name for name, _ in bound(file)} | set(file.imported())
    for node in file.of(ast.Name):
        if isinstance(node.ctx, ast.Load):
            if node.id == "_":
                yield "L12", node.lineno, "_ is read"
            if node.id not in own and node.id not in BUILTINS | set(DECORATORS):
                yield "L8", node.lineno, f"the name {node.id}"
    for node in file.of(ast.Attribute):
        if node.attr.startswith("__") and node.attr not in ("__init__", "__class__", "__name__"):
            yield "L8", node.lineno, f"the attribute {node.attr}"
        if isinstance(node.ctx, ast.Store) and node.attr in ATTRIBUTES_NOT_USED:
            yield "L26", node.lineno, f"the attribute {node.attr}"


def check_calls(file, package):
    """L18, L22, L23 and L25: what is called, and what is iterated over at once."""
    for node in file.of(ast.Call):
        called = node.func
        if isinstance(called, ast.Attribute) and called.attr not in METHODS | package.methods | {"setter"}:
            if called.attr not in package.attributes:
                yield "L25", node.lineno, f"the method {called.attr}"
        if not isinstance(called, ast.Name):
            continue
        if called.id in BUILTINS and called.id not in package.classes:
            if {keyword.arg for keyword in node.keywords} - KEYWORDS.get(called.id, set()):
                yield "L22", node.lineno, f"a keyword of {called.id}"
        if called.id == "isinstance" and name_of(node.args[0]) in package.classes:
            yield "L18", node.lineno, "a class that is passed on"
        if called.id in AT_ONCE:
            above = file.parent(node)
            taken = isinstance(above, ast.Call) and name_of(above.func) in TAKERS
            looped = isinstance(above, (ast.For, ast.comprehension)) and above.iter is node
            tested = isinstance(above, ast.Compare) and called.id == "range"
            if not (taken or looped or tested):
                yield "L23", node.lineno, f"{called.id} is not iterated at once"
    for node in file.of(ast.Attribute):
        above = file.parent(node)
        if node.attr in METHODS - package.methods - package.attributes and isinstance(node.ctx, ast.Load):
            if not (isinstance(above, ast.Call) and above.func is node):
                yield "L25", node.lineno, f"the method {node.attr} is not called"
    for node in file.of(ast.For):
        yield from check_loop(node)


def check_loop(loop):
    """L23: what a loop iterates over is not modified in it."""
    over = [part.id for part in ast.walk(loop.iter) if isinstance(part, ast.Name)]
    if isinstance(loop.iter, ast.Call) and name_of(loop.iter.func) in ("list", "range", "sorted"):
        return
    for node in [part for row in loop.body for part in ast.walk(row)]:
        target = None
        if isinstance(node, ast.Call) and isinstance(node.func, ast.Attribute):
            if node.func.attr in MODIFY:
                target = node.func.value
        if isinstance(node, ast.Subscript) and isinstance(node.ctx, (ast.Store, ast.Del)):
            target = node.value
        if target is not None and name_of(target) in over:
            yield "L23", node.lineno, f"{name_of(target)} is modified where it is iterated over"


def check_errors(file, package):
    """L19: what is raised, and what is caught."""
    for node in file.of(ast.Raise):
        if node.exc is not None:
            made = node.exc.func if isinstance(node.exc, ast.Call) else node.exc
            if not isinstance(node.exc, ast.Call) or not package.is_error(name_of(made)):
                yield "L19", node.lineno, "an error that is not created on the spot"
    for node in file.of(ast.ExceptHandler):
        caught = node.type.elts if isinstance(node.type, ast.Tuple) else [node.type]
        for part in caught:
            name = name_of(part)
            if not (name in CATCHES or (name in package.classes and package.is_error(name))):
                yield "L19", node.lineno, f"except {name}"
    for node in file.of(ast.ClassDef):
        for base in node.bases:
            if name_of(base) in ("StopIteration", "AttributeError", "BaseException"):
                yield "L18", node.lineno, "an error class under an error that bears none"


def check_strings(file, package):
    """L27: exponents and strings."""
    for node in file.of(ast.BinOp):
        if isinstance(node.op, ast.Pow):
            power = node.right
            if not (isinstance(power, ast.Constant) and 0 <= power.value <= 64):
                yield "L27", node.lineno, "an exponent that is no literal from 0 to 64"
    for node in file.of(ast.Constant):
        if isinstance(node.value, int) and abs(node.value) >= 10 ** 900:
            yield "L27", node.lineno, "a number of more than 900 digits"
        if isinstance(node.value, str):
            if "%" in node.value:
                yield "L27", node.lineno, "a percent sign"
            if node.value.endswith(("._", ".__")) or re.fullmatch("__.*__", node.value):
                yield "L27", node.lineno, "a string that looks like a name of Python's own"
    for token in tokenize.generate_tokens(io.StringIO(file.text).readline):
        if token.type == tokenize.STRING and re.search(r"\\(?![n t\\\"'])", token.string.replace("\\\\", "")):
            yield "L27", token.start[0], "an escape"


def is_generator(node):
    """Is it a function that yields? Functions inside it do not count."""
    return isinstance(node, ast.FunctionDef) and any(
        isinstance(part, (ast.Yield, ast.YieldFrom)) for part in ast.walk(node))


def iterated_at_once(file, node):
    """Is the call iterated by what stands around it?"""
    above = file.parent(node)
    if isinstance(above, (ast.For, ast.comprehension)):
        return above.iter is node
    return isinstance(above, ast.YieldFrom) or (isinstance(above, ast.Call) and name_of(above.func) in ITERATE)


def check_generators(file, package):
    """L23: generators are plain, have names of their own, and are iterated at once."""
    for node in [node for node in file.of(ast.FunctionDef) if is_generator(node)]:
        inside = list(ast.walk(node))
        if node.decorator_list or node.name in DOUBLE or node.name in METHODS:
            yield "L23", node.lineno, f"{node.name} is not to be a generator"
        if package.names.count(node.name) > 1 or node.name in package.attributes:
            yield "L23", node.lineno, f"something else is called {node.name}"
        if any(isinstance(part, ast.Return) and part.value for part in inside):
            yield "L23", node.lineno, "a generator that returns a value"
        for part in inside:
            if isinstance(part, (ast.Yield, ast.YieldFrom)) and not isinstance(file.parent(part), ast.Expr):
                yield "L23", part.lineno, "a yield that is no statement"
            if isinstance(part, (ast.Try, ast.With)):
                yield "L23", part.lineno, "a try or a with in a generator"
    for node in file.of(ast.Name, ast.Attribute):
        name = node.id if isinstance(node, ast.Name) else node.attr
        if name in package.generators and isinstance(node.ctx, ast.Load):
            above = file.parent(node)
            if not (isinstance(above, ast.Call) and above.func is node and iterated_at_once(file, above)):
                yield "L23", node.lineno, f"{name} is not iterated at once"


def check_properties(file, package):
    """L5 and L28: properties, __eq__ and __len__ change nothing; __iter__ is one statement."""
    for node in file.of(ast.FunctionDef):
        decorators = [name_of(decorator) for decorator in node.decorator_list]
        if "property" in decorators:
            if len(node.args.args) != 1 or node.name in METHODS or package.names.count(node.name) > 1:
                yield "L5", node.lineno, f"the property {node.name}"
        if "property" in decorators or node.name in ("__eq__", "__len__"):
            for part in ast.walk(node):
                stored = isinstance(part, (ast.Attribute, ast.Subscript)) and not isinstance(part.ctx, ast.Load)
                called = isinstance(part, ast.Call) and isinstance(part.func, ast.Attribute)
                if stored or (called and part.func.attr in MODIFY):
                    yield "L5", part.lineno, f"{node.name} changes something"
        if node.name == "__iter__":
            rows = [row for row in node.body if not (isinstance(row, ast.Expr) and file.is_docstring(row.value))]
            if not re.fullmatch(r"return iter\(self(\.\w+)+\)", "; ".join(ast.unparse(row) for row in rows)):
                yield "L5", node.lineno, "an __iter__ that is not one statement"


def check_attributes(file, package):
    """L18: an attribute that is read is assigned by some class; L24: where a set may stand."""
    known = package.attributes | package.methods | METHODS | {"setter", "maketrans"} | DOUBLE
    for node in file.of(ast.Attribute):
        if isinstance(node.ctx, ast.Load) and node.attr not in known | {"__class__", "__name__"}:
            yield "L18", node.lineno, f"no class assigns the attribute {node.attr}"
    for node in file.of(ast.Call):
        if name_of(node.func) == "set":
            above = file.parent(node)
            if not (isinstance(above, (ast.Compare, ast.Assign, ast.BinOp))
                    or (isinstance(above, ast.Call) and name_of(above.func) in ("sorted", "len"))):
                yield "L24", node.lineno, "a set"


def check_class_methods(file, package):
    """L5: class and static methods have names of their own; cls is called, or asked for a class value."""
    for node in file.of(ast.FunctionDef):
        if not {"classmethod", "staticmethod"} & {name_of(decorator) for decorator in node.decorator_list}:
            continue
        if package.names.count(node.name) > 1 or node.name in package.attributes | METHODS:
            yield "L5", node.lineno, f"something else is called {node.name}"
        inside = [part for row in node.body for part in ast.walk(row)]
        for part in inside:
            if isinstance(part, (ast.Yield, ast.YieldFrom)) or name_of(part) == "super":
                yield "L5", part.lineno, f"a yield or super in {node.name}"
            if name_of(part) == "cls":
                above = file.parent(part)
                called = isinstance(above, ast.Call) and above.func is part
                if not (called or isinstance(above, ast.Attribute)):
                    yield "L5", part.lineno, "cls is passed on"
                if any(isinstance(over, (ast.Lambda, ast.ListComp, ast.GeneratorExp, ast.DictComp, ast.SetComp))
                       and part in list(ast.walk(over)) for over in inside):
                    yield "L5", part.lineno, "cls is read by a lambda or a comprehension"


def is_starred(node):
    """Is it what may stand behind a star or beside it: a name, an attribute of a name, a literal, or such in a tuple?"""
    if isinstance(node, (ast.Tuple, ast.List)):
        return all(is_starred(part) for part in node.elts)
    if isinstance(node, ast.Attribute):
        return isinstance(node.value, ast.Name)
    return isinstance(node, (ast.Name, ast.Constant))


def check_stars_and_lambdas(file, package):
    """L7: what stands behind a star in a call; L13: lambdas that look the same; L4: what they assign."""
    for node in file.of(ast.Call):
        stars = [place for place, part in enumerate(node.args) if isinstance(part, ast.Starred)]
        if stars:
            behind = [getattr(part, "value", part) if isinstance(part, ast.Starred) else part
                      for part in node.args[stars[0]:]]
            if not all(is_starred(part) for part in behind + [keyword.value for keyword in node.keywords]):
                yield "L7", node.lineno, "an expression behind a star"
            if isinstance(node.func, ast.Name) and node.func.id in BUILTINS - {"max", "min", "zip"}:
                yield "L7", node.lineno, f"a star in a call of {node.func.id}"
    seen = set()
    for node in file.of(ast.Lambda):
        names = (node.lineno,) + tuple(arg.arg for arg in node.args.args)
        if names in seen:
            yield "L13", node.lineno, "two lambdas that look the same"
        seen.add(names)
        if [part for part in ast.walk(node.body) if isinstance(part, ast.NamedExpr)]:
            yield "L7", node.lineno, "a lambda that assigns"


def check_tables(file, package):
    """L15: functions only read a list or dict that stands at module level; functions in it are called by a name."""
    tables = {node.targets[0].id for node in file.tree.body if isinstance(node, ast.Assign)
              and isinstance(node.value, (ast.List, ast.Dict)) and isinstance(node.targets[0], ast.Name)}
    for node in file.of(ast.Name):
        if node.id not in tables or isinstance(node.ctx, ast.Store):
            continue
        above = file.parent(node)
        over = file.parent(above)
        read = isinstance(above, ast.Subscript) and isinstance(above.ctx, ast.Load) and above.value is node
        if read and isinstance(over, ast.Call) and over.func is above:
            yield "L3", node.lineno, f"what stands in {node.id} is called without a name"
        looped = isinstance(above, (ast.For, ast.comprehension)) and above.iter is node
        taken = isinstance(above, ast.Call) and name_of(above.func) in TAKERS and node in above.args
        asked = isinstance(above, ast.Attribute) and above.attr in ("get", "items", "keys", "values", "index", "count")
        if not (read or looped or taken or asked or isinstance(above, ast.Compare)):
            yield "L15", node.lineno, f"{node.id} is not only read"


CHECKS = (check_class_methods, check_stars_and_lambdas, check_tables, check_text, check_imports, check_module, check_functions, check_classes, check_statements, check_names,
          check_calls, check_errors, check_strings, check_generators, check_properties, check_attributes)


def broken(texts):
    """What is broken in a package, given by the texts of its files: lines that begin with the rule."""
    package = Package(texts)
    found = [(rule, name, line, why) for check in (check_files, check_cycles)
             for rule, name, line, why in check(package)]
    for file in package.files:
        for check in CHECKS:
            found += [(rule, file.name, line, why) for rule, line, why in check(file, package)]
    return [f"{rule} {name}:{line} {why}" for rule, name, line, why in found]
