"""A reader of the package's files that finds breaches of the language's rules.

It is narrower than the rules where the package needs no more: it lets
nothing pass that the rules refuse in what it looks at, and refuses some
things (sets, generators, decorators) that they would let pass.
"""

import ast
import builtins
import io
import re
import tokenize

BUILTINS = set(
    "len range enumerate zip min max sum abs sorted reversed int str bool list tuple dict "
    "isinstance ord repr any all divmod Exception ValueError TypeError KeyError IndexError "
    "LookupError super".split()
)
METHODS = set(
    "append clear copy count endswith extend find get index insert isalnum isalpha isdigit islower "
    "isspace isupper items join keys ljust lower lstrip partition pop remove replace reverse rfind "
    "rjust rpartition rsplit rstrip setdefault split splitlines startswith strip update upper "
    "values zfill bit_length isascii removeprefix".split()
)
# Own methods may not have the names of other methods of builtin values than those.
OF_BUILTINS = {
    x for kind in (str, int, list, dict, set, bytes, tuple) for x in dir(kind) if x[:2] != "__"
} - METHODS - {"add", "discard"}
CHANGING = set("append clear extend insert pop remove reverse setdefault update sort".split())
NOWHERE = set("register mro elements open input law version_info with_traceback add_note".split())
NOT_AS_NAMES = NOWHERE | set(
    "attrgetter breakpoint builtins compile copyright credits delattr dir eval exec exit gc getattr "
    "globals hasattr help id importlib license locals methodcaller os quit setattr super type vars "
    "sys".split()
)
NO_ATTRIBUTES = set(
    "items keys values pop update append clear extend insert remove reverse setdefault sort args "
    "encode decode hex fromhex format format_map mro".split()
)
NO_WORDS = re.compile(
    r"\b(type|typing|typing_extensions|enum|Enum|IntEnum|StrEnum|Flag|IntFlag|Generic|Protocol|ABC|"
    r"ABCMeta|namedtuple|NamedTuple|TypedDict|TYPE_CHECKING|abstractmethod)\b"
    r"|dataclass|overload|contextmanager"
)
NODES = (
    ast.Module, ast.ImportFrom, ast.alias, ast.FunctionDef, ast.ClassDef, ast.arguments, ast.arg,
    ast.Return, ast.Assign, ast.AugAssign, ast.If, ast.While, ast.For, ast.Break, ast.Continue,
    ast.Pass, ast.Raise, ast.Expr, ast.Call, ast.keyword, ast.Attribute, ast.Name, ast.Constant,
    ast.Tuple, ast.List, ast.Dict, ast.ListComp, ast.DictComp, ast.GeneratorExp, ast.comprehension,
    ast.Compare, ast.BoolOp, ast.UnaryOp, ast.BinOp, ast.IfExp, ast.Lambda, ast.Subscript,
    ast.Slice, ast.Starred, ast.JoinedStr, ast.FormattedValue, ast.Try, ast.ExceptHandler,
    ast.expr_context, ast.boolop, ast.operator, ast.unaryop, ast.cmpop,
)
COMPREHENSIONS = (ast.ListComp, ast.DictComp, ast.GeneratorExp)
LAZY = set("zip enumerate reversed range".split())
VIEWS = set("items keys values".split())
EATERS = set("list tuple dict sorted sum any all enumerate zip".split())
OVER_GENERATORS = set("list tuple dict sorted sum min max any all".split())
KEYWORDS = {
    "sorted": {"key", "reverse"}, "min": {"key", "default"}, "max": {"key", "default"},
    "sum": {"start"}, "enumerate": {"start"}, "zip": {"strict"},
}


def called(node):
    """The bare name that a call calls, None if it calls none."""
    if isinstance(node, ast.Call) and isinstance(node.func, ast.Name):
        return node.func.id
    return None


def is_lazy(node):
    if called(node) in LAZY:
        return True
    return (isinstance(node, ast.Call) and isinstance(node.func, ast.Attribute)
            and node.func.attr in VIEWS)


class File:
    """One file of the package, read."""

    def __init__(self, name, text):
        self.name = name
        self.text = text
        self.tree = ast.parse(text)
        self.parent = {}
        for node in ast.walk(self.tree):
            for child in ast.iter_child_nodes(node):
                self.parent[child] = node
        self.functions = [n for n in ast.walk(self.tree) if isinstance(n, ast.FunctionDef)]
        self.classes = [n for n in self.tree.body if isinstance(n, ast.ClassDef)]
        self.imports = [n for n in self.tree.body if isinstance(n, ast.ImportFrom)]
        self.imported = {a.name: n.module for n in self.imports for a in n.names}
        self.defined = {n.name for n in self.tree.body
                        if isinstance(n, (ast.FunctionDef, ast.ClassDef))}
        self.assigned = {n.targets[0].id: n.value for n in self.tree.body
                         if isinstance(n, ast.Assign) and isinstance(n.targets[0], ast.Name)}
        self.methods = {m.name for c in self.classes for m in c.body
                        if isinstance(m, ast.FunctionDef)}


def breaches(files):
    """Lines "file:line: what" of all breaches that are found in files by names."""
    read = {name: File(name, files[name]) for name in files}
    methods = set().union(*[f.methods for f in read.values()])
    attributes = {n.attr for f in read.values() for n in ast.walk(f.tree)
                  if isinstance(n, ast.Attribute) and isinstance(n.ctx, ast.Store)}
    tables = {(f.name, x) for f in read.values() for x, v in f.assigned.items()
              if isinstance(v, (ast.Dict, ast.List))}
    found = []
    for f in read.values():
        for check in (check_text, check_words, check_module, check_nodes, check_names, check_sizes):
            found += [f"{f.name}:{line}: {what}" for line, what in check(f)]
        for check in (check_calls, check_iterated, check_loops):
            found += [f"{f.name}:{line}: {what}" for line, what in check(f)]
        found += [f"{f.name}:{line}: {what}" for line, what in check_imports(f, read)]
        found += [f"{f.name}:{line}: {what}" for line, what in check_tables(f, tables)]
        found += [f"{f.name}:{line}: {what}"
                  for line, what in check_attributes(f, methods, attributes)]
    return found


def check_text(f):
    lines = f.text.split("\n")
    if len(lines) - 1 > 399:
        yield len(lines), "a file of more than 399 lines"
    for at, line in enumerate(lines, 1):
        if len(line) > 120:
            yield at, "a line of more than 120 characters"
        if not all(" " <= c <= "~" for c in line):
            yield at, "a character that is not let"


def check_words(f):
    for token in tokenize.generate_tokens(io.StringIO(f.text).readline):
        if token.type == tokenize.COMMENT or token.string.startswith('"""'):
            continue
        if token.type == tokenize.STRING:
            if "%" in token.string or re.search(r"\\[^nt\\\"']", token.string):
                yield token.start[0], "a character or escape in a string"
            if re.search(r"\._*[\"']$", token.string) and "_" in token.string[-4:]:
                yield token.start[0], "a string that ends in a dot and underscores"
            if "__" in token.string:
                yield token.start[0], "two underscores in a string"
        if NO_WORDS.search(token.string) or "_wall" in token.string:
            yield token.start[0], "a word that may not occur"


def check_module(f):
    for at, node in enumerate(f.tree.body):
        doc = at == 0 and isinstance(node, ast.Expr) and isinstance(node.value, ast.Constant)
        if isinstance(node, ast.Assign):
            if len(node.targets) != 1 or not isinstance(node.targets[0], ast.Name):
                yield node.lineno, "an assignment of more than one name"
            elif not is_plain(node.value, f.defined):
                yield node.lineno, "a module-level value that is not plain"
        elif not doc and not isinstance(node, (ast.ImportFrom, ast.FunctionDef, ast.ClassDef)):
            yield node.lineno, "a statement that may not stand at module level"
    names = [a.name for n in f.imports for a in n.names]
    names += [t.id for n in f.tree.body if isinstance(n, ast.Assign) for t in n.targets]
    names += [n.name for n in f.tree.body if isinstance(n, (ast.FunctionDef, ast.ClassDef))]
    if len(names) != len(set(names)):
        yield 1, "a name that is bound twice"


def is_plain(node, functions):
    if isinstance(node, ast.Constant):
        return isinstance(node.value, (int, str, bytes)) or node.value is None
    if isinstance(node, ast.UnaryOp):
        return isinstance(node.op, ast.USub) and is_plain(node.operand, functions)
    if isinstance(node, (ast.Tuple, ast.List)):
        return all(is_inner(n, functions) for n in node.elts)
    if isinstance(node, ast.Dict):
        return all(k is not None and is_inner(k, functions) for k in node.keys) and all(
            is_inner(v, functions) for v in node.values)
    return isinstance(node, ast.Name) and node.id in functions


def is_inner(node, functions):
    return not isinstance(node, (ast.Dict, ast.List)) and is_plain(node, functions)


def check_nodes(f):
    for node in ast.walk(f.tree):
        line = getattr(node, "lineno", 1)
        if not isinstance(node, NODES):
            yield line, f"{node.__class__.__name__} is not used"
        if isinstance(node, ast.FunctionDef) and (node.decorator_list or node.returns):
            yield line, "a decorator or annotation"
        if isinstance(node, ast.arg) and node.annotation is not None:
            yield line, "an annotation"
        if isinstance(node, ast.arguments) and (node.vararg or node.kwarg or node.posonlyargs):
            yield line, "stars or slashes among parameters"
        if isinstance(node, ast.Constant) and isinstance(node.value, (float, complex)):
            yield line, "a float"
        if isinstance(node, (ast.Div, ast.MatMult)):
            yield line, "a sign that is not let"
        if isinstance(node, (ast.Dict, ast.ListComp, ast.DictComp, ast.Lambda, ast.GeneratorExp)):
            if isinstance(f.parent[node], ast.Call) and f.parent[node].func is node:
                yield line, "a literal that is called"
        if isinstance(node, ast.Compare):
            for op, right in zip(node.ops, node.comparators):
                if isinstance(op, (ast.Is, ast.IsNot)) and not (
                        isinstance(right, ast.Constant) and repr(right.value) in ("None", "True", "False")):
                    yield line, "is beside what is not None, True or False"
        if isinstance(node, ast.Raise):
            if node.exc is not None and not (called(node.exc) or "")[:1].isupper():
                yield line, "raise of what is not created on the spot"
        if isinstance(node, ast.ExceptHandler):
            named = node.type.elts if isinstance(node.type, ast.Tuple) and node.type.elts else [node.type]
            if not all(isinstance(x, ast.Name) and x.id not in vars(builtins) for x in named):
                yield line, "a handler that names no own error"
        if isinstance(node, ast.FormattedValue) and node.format_spec is not None:
            yield line, "a format"


def bound_in(function):
    names = [a.arg for a in function.args.args + function.args.kwonlyargs]
    for node in ast.walk(function):
        if isinstance(node, ast.Name) and isinstance(node.ctx, ast.Store):
            names.append(node.id)
        if isinstance(node, ast.FunctionDef) and node is not function:
            names.append(node.name)
        if isinstance(node, ast.Lambda):
            names += [a.arg for a in node.args.args]
        if isinstance(node, ast.ExceptHandler) and node.name:
            names.append(node.name)
    return names


def check_names(f):
    taken = set(f.imported) | {c.name for c in f.classes}
    for function in f.functions:
        parameters = {a.arg for a in function.args.args} - taken - set(f.assigned)
        for name in bound_in(function):
            if name in vars(builtins) or name in NOT_AS_NAMES:
                yield function.lineno, f"{name}: a builtin's or barred name"
            # The interface gives parameters the names of functions beside them: the rules let that pass.
            if name in taken or name in f.assigned or name in f.defined and name not in parameters:
                yield function.lineno, f"{name}: a name of the module is bound again"
            if not re.fullmatch(r"_?[A-Za-z][A-Za-z0-9_]*|_", name):
                yield function.lineno, f"{name}: no plain name"
        if function.name in vars(builtins) or function.name in NOT_AS_NAMES:
            yield function.lineno, f"{function.name}: a builtin's or barred name"
    for node in ast.walk(f.tree):
        if isinstance(node, ast.Name) and isinstance(node.ctx, ast.Load):
            if node.id == "_":
                yield node.lineno, "_ is read"
            if node.id in vars(builtins) and node.id not in BUILTINS:
                yield node.lineno, f"{node.id}: a builtin that is not let"
        if isinstance(node, ast.keyword) and node.arg in NOWHERE:
            yield node.value.lineno, f"{node.arg}: a barred keyword"
    for name in list(f.assigned) + list(f.defined):
        if name in vars(builtins) or name in NOT_AS_NAMES:
            yield 1, f"{name}: a builtin's or barred name"


def check_sizes(f):
    for function in f.functions:
        if function.end_lineno - function.lineno + 1 > 40:
            yield function.lineno, "a function of more than 40 lines"
    for node in f.classes:
        names = [m.name for m in node.body if isinstance(m, ast.FunctionDef)]
        if len(names) != len(set(names)):
            yield node.lineno, "a method defined twice"
        for name in names:
            if name.startswith("__") and name != "__init__":
                yield node.lineno, f"{name} is not used"
        for part in node.body:
            if not isinstance(part, (ast.FunctionDef, ast.Expr, ast.Pass)):
                yield part.lineno, "a class value"


def check_calls(f):
    for node in ast.walk(f.tree):
        if not isinstance(node, ast.Call):
            continue
        name = called(node)
        if name in BUILTINS:
            for word in node.keywords:
                if word.arg not in KEYWORDS.get(name, ()):
                    yield node.lineno, f"keyword {word.arg} of {name}"
        if any(isinstance(a, ast.Starred) for a in node.args):
            if name in BUILTINS and name not in ("max", "min", "zip"):
                yield node.lineno, "a star in a call of a builtin"
        if isinstance(node.func, ast.Attribute) and node.func.attr in METHODS and node.keywords:
            yield node.lineno, "a keyword of a method of a builtin value"
        if name == "isinstance":
            kinds = node.args[1].elts if isinstance(node.args[1], ast.Tuple) else [node.args[1]]
            if not all(isinstance(k, ast.Name) for k in kinds):
                yield node.lineno, "isinstance of what is no class"
    for node in ast.walk(f.tree):
        if isinstance(node, ast.Name) and node.id in BUILTINS and isinstance(node.ctx, ast.Load):
            above = f.parent[node]
            as_call = isinstance(above, ast.Call) and above.func is node
            as_kind = called(above) == "isinstance" or called(f.parent.get(above)) == "isinstance"
            as_base = isinstance(above, ast.ClassDef)
            if not (as_call or as_kind or as_base):
                yield node.lineno, f"{node.id} is kept as a value"
        if isinstance(node, ast.Name) and node.id in {c.name for c in f.classes}:
            above = f.parent[node]
            if not (isinstance(above, ast.Call) and above.func is node) and not isinstance(
                    above, (ast.ClassDef, ast.ExceptHandler)):
                if called(above) != "isinstance":
                    yield node.lineno, "a class that is kept as a value"


def check_iterated(f):
    for node in ast.walk(f.tree):
        above = f.parent.get(node)
        if isinstance(node, ast.GeneratorExp):
            joined = (isinstance(above, ast.Call) and isinstance(above.func, ast.Attribute)
                      and above.func.attr == "join" and isinstance(above.func.value, ast.Constant))
            if called(above) not in OVER_GENERATORS and not joined:
                yield node.lineno, "a generator expression that is kept"
        if is_lazy(node):
            looped = isinstance(above, (ast.For, ast.comprehension)) and above.iter is node
            eaten = called(above) in EATERS and above.args[0] is node
            zipped = called(above) == "zip"
            tested = called(node) == "range" and (
                isinstance(above, ast.Compare) or called(above) in ("reversed", "len"))
            least = called(above) in ("min", "max") and len(above.args) == 1
            if not (looped or eaten or zipped or tested or least):
                yield node.lineno, "what is not iterated at once"
    for node in ast.walk(f.tree):
        if isinstance(node, COMPREHENSIONS):
            yield from check_inner_names(f, node)


def check_inner_names(f, node):
    """A variable of a comprehension is no name that is assigned further out."""
    own = {n.id for g in node.generators for n in ast.walk(g.target) if isinstance(n, ast.Name)}
    above = f.parent[node]
    while not isinstance(above, ast.Module):
        if isinstance(above, COMPREHENSIONS):
            outer = {n.id for g in above.generators for n in ast.walk(g.target)
                     if isinstance(n, ast.Name)}
            if own & outer - {"_"}:
                yield node.lineno, "a name of a comprehension further out"
        if isinstance(above, ast.FunctionDef):
            if own & {a.arg for a in above.args.args}:
                yield node.lineno, "a comprehension takes a parameter's name"
            break
        above = f.parent[above]


def iterated_names(node):
    """The names and attributes over which a loop goes, as text."""
    if isinstance(node, (ast.Name, ast.Attribute)):
        return [ast.unparse(node)]
    if is_lazy(node):
        parts = list(node.args)
        if isinstance(node.func, ast.Attribute):
            parts.append(node.func.value)
        return [x for part in parts for x in iterated_names(part)]
    if isinstance(node, (ast.IfExp, ast.BoolOp)):
        parts = node.values if isinstance(node, ast.BoolOp) else [node.body, node.orelse]
        return [x for part in parts for x in iterated_names(part)]
    return []


def changed_names(node):
    for part in ast.walk(node):
        if isinstance(part, ast.Call) and isinstance(part.func, ast.Attribute):
            if part.func.attr in CHANGING:
                yield ast.unparse(part.func.value)
        if isinstance(part, ast.Subscript) and not isinstance(part.ctx, ast.Load):
            yield ast.unparse(part.value)
        if isinstance(part, ast.AugAssign):
            yield ast.unparse(part.target)


def check_loops(f):
    for node in ast.walk(f.tree):
        if isinstance(node, ast.For):
            changed = {x for row in node.body for x in changed_names(row)}
            if changed & set(iterated_names(node.iter)):
                yield node.lineno, "a loop changes what it goes over"
        if isinstance(node, COMPREHENSIONS):
            changed = set(changed_names(node))
            for part in node.generators:
                if changed & set(iterated_names(part.iter)):
                    yield node.lineno, "a comprehension changes what it goes over"


def check_imports(f, read):
    for node in f.imports:
        if node.level or not node.module or not node.module.startswith("onebase."):
            yield node.lineno, "an import from outside of the package"
            continue
        other = read.get(node.module.partition(".")[2])
        for part in node.names:
            if part.asname or other is None or part.name not in (
                    other.defined | set(other.assigned)):
                yield node.lineno, f"{part.name} is not defined there"
    first = [n for n in f.tree.body if not isinstance(n, ast.ImportFrom)][:1]
    last = max([f.tree.body.index(n) for n in f.imports], default=-1)
    if last > len(f.imports) - 1 + len(first):
        yield 1, "an import that does not stand at the top"
    used = {n.id for n in ast.walk(f.tree) if isinstance(n, ast.Name)}
    for name in f.imported:
        if name not in used:
            yield 1, f"{name} is imported and not used"


def check_tables(f, tables):
    """Lists and dicts of module level are only read, never passed on as they are."""
    names = {x for x in f.assigned if (f.name, x) in tables}
    names |= {x for x, module in f.imported.items() if (module.partition(".")[2], x) in tables}
    for node in ast.walk(f.tree):
        if not isinstance(node, ast.Name) or node.id not in names:
            continue
        above = f.parent[node]
        if isinstance(above, ast.Assign) and above in f.tree.body:
            continue
        read = (
            (isinstance(above, ast.Subscript) and above.value is node)
            and isinstance(above.ctx, ast.Load)
            or isinstance(above, ast.Compare)
            or isinstance(above, (ast.For, ast.comprehension)) and above.iter is node
            or isinstance(above, ast.Attribute) and above.attr in ("get", "items", "keys", "values")
            or called(above) in ("list", "dict", "tuple", "len", "sorted")
        )
        if not read:
            yield node.lineno, f"{node.id} is passed on or changed"


def is_class_name(node, above):
    """Whether the node is part of a name's `.__class__.__name__`."""
    if node.attr == "__class__":
        return isinstance(node.value, ast.Name) and isinstance(above, ast.Attribute) and above.attr == "__name__"
    return node.attr == "__name__" and isinstance(node.value, ast.Attribute) and node.value.attr == "__class__"


def check_attributes(f, methods, attributes):
    for node in ast.walk(f.tree):
        if not isinstance(node, ast.Attribute):
            continue
        above = f.parent[node]
        as_call = isinstance(above, ast.Call) and above.func is node
        if isinstance(node.ctx, ast.Store):
            if node.attr in NO_ATTRIBUTES or node.attr in NOWHERE:
                yield node.lineno, f"{node.attr} may not be an attribute"
            if not isinstance(node.value, ast.Name):
                yield node.lineno, "an attribute assigned through what is no name"
        elif as_call:
            if node.attr not in METHODS | methods and node.attr != "__init__":
                yield node.lineno, f"{node.attr} is no method that is let"
        elif node.attr not in attributes and not is_class_name(node, above):
            yield node.lineno, f"{node.attr} is no attribute, or a method passed on"
    for node in f.classes:
        own = {m.name for m in node.body if isinstance(m, ast.FunctionDef)}
        stored = {n.attr for n in ast.walk(node)
                  if isinstance(n, ast.Attribute) and isinstance(n.ctx, ast.Store)}
        if own & OF_BUILTINS:
            yield node.lineno, "a method with a name of a builtin value's method"
        if own & stored:
            yield node.lineno, "a name that is a method and an attribute"
