"""Finds where the package leaves the part of Python that it keeps to (LANGUAGE.md, L1 to L28).

Where a rule is hard to see from the form alone, what's asked here is narrower than the rule: no sets, no
annotations, no methods with two underscores but __init__, no handlers of ValueError, LookupError, IndexError.
"""

import ast
import builtins
import re

PACKAGE = "sayback"
INTERFACE = {"readings.py": {"answers": ["calls"]}}

ERRORS = set("""Exception ValueError TypeError KeyError IndexError LookupError ZeroDivisionError ArithmeticError
    OverflowError RuntimeError NotImplementedError AttributeError StopIteration""".split())
FUNCTIONS = set("""len range enumerate zip min max sum abs sorted reversed int str bool list tuple dict set frozenset
    isinstance ord repr any all divmod""".split())
ALL_BUILTINS = set(dir(builtins))
METHODS = set("""append clear copy count endswith extend find get index insert isalnum isalpha isdigit islower isspace
    isupper items join keys ljust lower lstrip partition pop remove replace reverse rfind rjust rpartition rsplit rstrip
    setdefault split splitlines startswith strip update upper values zfill bit_length""".split())
CHANGES = {"append", "clear", "extend", "insert", "pop", "remove", "reverse", "setdefault", "update", "add", "discard"}
VALUES_FREE = {"count", "index", "title", "find", "get", "join", "lower", "upper", "split", "strip", "copy", "add"}
VALUES_TAKEN = {name for kind in (str, int, list, dict, set, bytes, tuple, object) for name in dir(kind)} - VALUES_FREE
VALUES_TAKEN |= {"args", "encode", "format", "format_map", "mro"}
NOWHERE = set("""register mro elements open input version_info with_traceback add_note f_back f_code f_globals f_locals
    f_lineno tb_next tb_frame tb_lineno co_names co_code co_consts gi_frame""".split())
NOT_AS_NAMES = set("""attrgetter breakpoint builtins compile copyright credits delattr dir eval exec exit gc getattr
    globals hasattr help id importlib license locals methodcaller os quit setattr super type vars __name__ sys
    """.split())
WORDS_OUT = re.compile(r"\b(type|typing|typing_extensions|enum|Enum|IntEnum|StrEnum|Flag|IntFlag|Generic|Protocol|ABC"
                       r"|ABCMeta|namedtuple|NamedTuple|TypedDict|TYPE_CHECKING|abstractmethod)\b"
                       r"|dataclass|overload|contextmanager")
FILES_OUT = {"test", "tests", "testing", "site", "conftest", "sitecustomize", "usercustomize", "typing", "enum"}
STATEMENTS = (ast.FunctionDef, ast.ClassDef, ast.Return, ast.Assign, ast.AugAssign, ast.For, ast.While, ast.If,
              ast.Raise, ast.Try, ast.Expr, ast.Pass, ast.Break, ast.Continue, ast.ImportFrom)
EXPRESSIONS = (ast.Constant, ast.List, ast.Tuple, ast.Dict, ast.BinOp, ast.BoolOp, ast.UnaryOp, ast.Compare, ast.IfExp,
               ast.Call, ast.Attribute, ast.Subscript, ast.Slice, ast.ListComp, ast.JoinedStr, ast.FormattedValue,
               ast.Lambda, ast.Name)
WALKED = {"zip", "enumerate", "reversed", "range"}
WALKS = {"list", "tuple", "dict", "sorted", "sum", "any", "all", "enumerate", "zip", "min", "max"}
READS = WALKS | {"len", "reversed", "range"}
KEYWORDS = {"sorted": {"key", "reverse"}, "min": {"key", "default"}, "max": {"key", "default"}, "sum": {"start"},
            "enumerate": {"start"}, "zip": {"strict"}}
AS_KEY = {"len", "int", "str", "abs", "sum", "min", "max", "tuple"}
HANDLERS_OUT = ERRORS - {"KeyError", "ZeroDivisionError", "StopIteration"}


def faults(files):
    """The rules that the files (a dict of their names and sources) break: (rule, file, line)."""
    found = set()
    trees = {}
    for name, source in files.items():
        found |= {(rule, name, line) for rule, line in faults_of_signs(name, source)}
        trees[name] = ast.parse(source)
    package = Package(trees)
    for name, tree in trees.items():
        found |= {(rule, name, line) for rule, line in File(name, tree, package).faults()}
    return sorted(found | set(package.faults()))


def faults_of_signs(name, source):
    """What's to be seen without reading the file as Python."""
    stem = name[:-3]
    if not re.fullmatch(r"[a-z0-9_]+\.py", name):
        yield "L1", 0
    if stem in FILES_OUT or stem.startswith("test_") or stem in ALL_BUILTINS:
        yield "L14", 0
    rows = source.split("\n")
    if len(rows) > 400 or (len(rows) == 400 and rows[-1]):
        yield "L10", len(rows)
    for line, row in enumerate(rows, start=1):
        if len(row) > 120 or "\t" in row:
            yield "L10", line
        if re.search(r"[^ -~\t]", row):
            yield "L14", line
        if WORDS_OUT.search(row):
            yield "L17", line
        if re.search(r"\\[^nt\\'\"]|\\$", row.replace("\\\\", "")) or re.search(r"\d{901}", row):
            yield "L27", line


class Package:
    """What the files are to each other."""

    def __init__(self, trees):
        self.tops = {}
        self.draws = {}
        self.classes = {}
        self.methods = set()
        self.stored = {}
        for name, tree in trees.items():
            self.tops[name] = [top for node in tree.body for top in bound_by(node)]
            self.draws[name] = {node.module for node in tree.body if isinstance(node, ast.ImportFrom)}
            for node in ast.walk(tree):
                if isinstance(node, ast.ClassDef):
                    self.classes[node.name] = node
                    self.methods |= {part.name for part in node.body if isinstance(part, ast.FunctionDef)}
                if isinstance(node, ast.Attribute) and isinstance(node.ctx, ast.Store):
                    self.stored[node.attr] = (name, node.lineno)
        self.trees = trees

    def faults(self):
        if "__init__.py" not in self.trees:
            yield "L14", "__init__.py", 0
        for name in self.stored:
            if name in self.methods:
                yield ("L18",) + self.stored[name]
        for name in self.draws:
            if self.leads_back(name):
                yield "L16", name, 0
        for name, wanted in INTERFACE.items():
            for function, parameters in wanted.items():
                yield from self.interface_faults(name, function, parameters)

    def leads_back(self, name):
        """Whether a file draws from itself, in however many steps."""
        seen, waiting = set(), [name]
        while waiting:
            for module in self.draws.get(waiting.pop(), ()):
                other = module.split(".")[-1] + ".py"
                if other == name:
                    return True
                if other not in seen:
                    seen.add(other)
                    waiting.append(other)
        return False

    def interface_faults(self, name, function, parameters):
        for other, tree in self.trees.items():
            defs = [node for node in tree.body if getattr(node, "name", "") == function]
            if other != name and defs:
                yield "L16", other, defs[0].lineno
            if other == name:
                good = len(defs) == 1 and isinstance(defs[0], ast.FunctionDef) and not defs[0].args.defaults
                if not good or [each.arg for each in defs[0].args.args] != parameters:
                    yield "L16", name, 0


def bound_by(node):
    """The names that a statement of a file's top binds."""
    if isinstance(node, (ast.FunctionDef, ast.ClassDef)):
        return [node.name]
    if isinstance(node, ast.ImportFrom):
        return [each.asname or each.name for each in node.names]
    if isinstance(node, ast.Assign):
        return [target.id for target in node.targets if isinstance(target, ast.Name)]
    return []


def is_plain(node, above):
    """Whether a value at a file's top is plain; above: the functions defined above it."""
    if isinstance(node, ast.UnaryOp) and isinstance(node.op, ast.USub):
        node = node.operand
    if isinstance(node, ast.Constant):
        return node.value is None or type(node.value) in (int, str, bool)
    if isinstance(node, ast.Name):
        return node.id in above
    if isinstance(node, (ast.List, ast.Tuple)):
        return all(is_plain(part, above) for part in node.elts)
    return isinstance(node, ast.Dict) and all(is_plain(part, above) for part in node.keys + node.values if part)


class File:
    """One file, read as Python."""

    def __init__(self, name, tree, package):
        self.name = name
        self.tree = tree
        self.package = package
        self.parents = {child: node for node in ast.walk(tree) for child in ast.iter_child_nodes(node)}
        self.imports = {name for node in tree.body if isinstance(node, ast.ImportFrom) for name in bound_by(node)}
        self.own_classes = {node.name for node in tree.body if isinstance(node, ast.ClassDef)}
        self.rows = {bound_by(node)[0] for node in tree.body if isinstance(node, ast.Assign) and bound_by(node)
                     and isinstance(node.value, (ast.List, ast.Tuple, ast.Dict))}
        self.tops = package.tops[name]
        self.bound = set(self.tops)
        for node in ast.walk(tree):
            if isinstance(node, ast.Name) and isinstance(node.ctx, ast.Store):
                self.bound.add(node.id)
            if isinstance(node, ast.arg):
                self.bound.add(node.arg)
            if isinstance(node, (ast.FunctionDef, ast.ExceptHandler)) and node.name:
                self.bound.add(node.name)

    def faults(self):
        for rule in self.top_faults():
            yield rule
        for node in ast.walk(self.tree):
            for look in (self.statement, self.function, self.klass, self.name_used, self.attribute, self.call,
                         self.expression, self.error, self.loop):
                for rule in look(node):
                    yield rule, getattr(node, "lineno", 0)

    def top_faults(self):
        body = self.tree.body
        if ast.get_docstring(self.tree) is None:
            yield "L3", 0
        above = set()
        for place, node in enumerate(body):
            if isinstance(node, ast.FunctionDef):
                above.add(node.name)
            elif isinstance(node, ast.Assign):
                if len(bound_by(node)) != 1 or not is_plain(node.value, above):
                    yield "L3", node.lineno
                parts = [part for part in ast.walk(node.value) if isinstance(part, (ast.List, ast.Dict))]
                if [part for part in parts if part is not node.value]:
                    yield "L15", node.lineno
            elif isinstance(node, ast.ImportFrom):
                for rule in self.import_faults(node):
                    yield rule, node.lineno
            elif not isinstance(node, ast.ClassDef) and not (place == 0 and isinstance(node, ast.Expr)):
                yield "L3", node.lineno
        for name in set(self.tops):
            if self.tops.count(name) > 1:
                yield "L15", 0

    def import_faults(self, node):
        other = (node.module or "").split(".")
        names = [each.name for each in node.names]
        if node.level or len(other) != 2 or other[0] != PACKAGE or other[1] == "__main__" or "*" in names:
            yield "L2"
        elif [each for each in node.names if each.asname]:
            yield "L2"
        else:
            tree = self.package.trees.get(other[1] + ".py", ast.Module(body=[], type_ignores=[]))
            defined = [name for part in tree.body if not isinstance(part, ast.ImportFrom) for name in bound_by(part)]
            if set(names) - set(defined):
                yield "L16"

    def statement(self, node):
        if isinstance(node, ast.stmt) and not isinstance(node, STATEMENTS):
            yield "L6"
        if isinstance(node, ast.Import) or isinstance(node, ast.ImportFrom) and node not in self.tree.body:
            yield "L2"
        if isinstance(node, ast.Assign) and len(node.targets) > 1:
            yield "L6"
        if isinstance(node, (ast.For, ast.While)) and node.orelse:
            yield "L6"
        if isinstance(node, ast.Try) and node.finalbody:
            yield "L6"
        if isinstance(node, ast.Expr) and not isinstance(node.value, ast.Call):
            holder = self.parents[node]
            told = isinstance(holder, (ast.Module, ast.FunctionDef, ast.ClassDef)) and holder.body[0] is node
            if not told or not isinstance(node.value, ast.Constant) or not isinstance(node.value.value, str):
                yield "L6"
        if isinstance(node, ast.AnnAssign) or getattr(node, "annotation", None) or getattr(node, "returns", None):
            yield "L21"

    def function(self, node):
        if isinstance(node, (ast.FunctionDef, ast.Lambda)):
            given = node.args
            if given.vararg or given.kwarg or given.kwonlyargs or given.posonlyargs:
                yield "L4"
            if [each for each in given.defaults if not is_plain(each, ()) or not isinstance(each, ast.Constant)]:
                yield "L4"
        if isinstance(node, ast.FunctionDef):
            if node.decorator_list:
                yield "L4"
            if node.end_lineno - node.lineno >= 40:
                yield "L10"
            calls = [part.func for part in ast.walk(node) if isinstance(part, ast.Call)]
            if [part for part in calls if isinstance(part, ast.Name) and part.id == node.name]:
                yield "L11"
        if isinstance(node, ast.Lambda):
            others = [other for other in ast.walk(self.tree) if isinstance(other, ast.Lambda) and other is not node]
            if [other for other in others
                    if other.lineno == node.lineno and ast.dump(other.args) == ast.dump(node.args)]:
                yield "L13"

    def klass(self, node):
        if not isinstance(node, ast.ClassDef):
            return
        if node not in self.tree.body:
            yield "L15"
        bases = [base.id if isinstance(base, ast.Name) else "" for base in node.bases]
        if len(bases) > 1 or node.keywords or node.decorator_list or set(bases) - ERRORS - set(self.package.classes):
            yield "L5"
        if set(bases) & {"StopIteration", "AttributeError"}:
            yield "L18"
        for part in node.body:
            if not isinstance(part, (ast.FunctionDef, ast.Pass)) and not (
                    part is node.body[0] and isinstance(part, ast.Expr)):
                yield "L5"
        methods = [part.name for part in node.body if isinstance(part, ast.FunctionDef)]
        if len(set(methods)) < len(methods):
            yield "L18"
        for part in node.body:
            if isinstance(part, ast.FunctionDef):
                if part.name.startswith("__") and part.name != "__init__":
                    yield "L28"
                if part.name != "__init__" and part.name in VALUES_TAKEN | VALUES_FREE:
                    yield "L26"
                if part.name == "__init__" and [
                        each for each in ast.walk(part) if isinstance(each, ast.Return) and each.value]:
                    yield "L28"

    def name_used(self, node):
        names = []
        if isinstance(node, ast.Name):
            names = [node.id]
        elif isinstance(node, ast.arg):
            names = [node.arg]
        elif isinstance(node, (ast.FunctionDef, ast.ClassDef, ast.ExceptHandler)):
            names = [node.name] if node.name else []
        elif isinstance(node, ast.Attribute):
            names = [node.attr]
        for name in names:
            if not re.fullmatch(r"[A-Za-z][A-Za-z0-9_]*", name) and name != "__init__":
                yield "L12"
            if name in NOWHERE or (name in NOT_AS_NAMES and not isinstance(node, ast.Attribute)):
                yield "L17"
            binds = not isinstance(node, ast.Attribute) and not isinstance(getattr(node, "ctx", None), ast.Load)
            method = isinstance(node, ast.FunctionDef) and isinstance(self.parents[node], ast.ClassDef)
            if binds and not method and name in ALL_BUILTINS:
                yield "L15"
            at_top = node in self.tree.body or self.parents.get(node) in self.tree.body and isinstance(
                self.parents[node], ast.Assign)
            if binds and not at_top and not method and name in self.imports | self.own_classes:
                yield "L15"
        if isinstance(node, ast.Name) and isinstance(node.ctx, ast.Load):
            yield from self.name_read(node)

    def name_read(self, node):
        holder = self.parents[node]
        if node.id not in self.bound | ERRORS | FUNCTIONS:
            yield "L27" if node.id == "chr" else "L8"
        called = isinstance(holder, ast.Call) and holder.func is node
        asked = isinstance(holder, ast.Call) and getattr(holder.func, "id", "") == "isinstance"
        asked = asked or isinstance(holder, ast.Tuple) and isinstance(self.parents[holder], (ast.Call, ast.ExceptHandler))
        if node.id in FUNCTIONS and not called and not asked:
            if not (isinstance(holder, ast.keyword) and holder.arg == "key" and node.id in AS_KEY):
                yield "L22"
        if node.id in set(self.package.classes) | ERRORS and not called and not asked:
            own_init = isinstance(holder, ast.Attribute) and holder.attr == "__init__"
            if not own_init and not isinstance(holder, (ast.ClassDef, ast.ExceptHandler)):
                yield "L18"
        if node.id in self.rows and not self.is_reading(node, holder):
            yield "L15"
        if node.id in ("set", "frozenset"):
            yield "L24"

    def is_reading(self, node, holder):
        """Whether a list, tuple or dict of the file's top is only read here."""
        if isinstance(holder, ast.Subscript):
            return isinstance(holder.ctx, ast.Load)
        if isinstance(holder, (ast.For, ast.comprehension)):
            return holder.iter is node
        if isinstance(holder, ast.Call):
            return getattr(holder.func, "id", "") in READS
        if isinstance(holder, ast.Attribute):
            return holder.attr in {"get", "index", "count", "items", "keys", "values", "copy"}
        return isinstance(holder, ast.Compare)

    def attribute(self, node):
        if not isinstance(node, ast.Attribute):
            return
        holder = self.parents[node]
        if isinstance(node.ctx, ast.Store):
            if node.attr in VALUES_TAKEN:
                yield "L26"
            if isinstance(node.value, ast.Name) and node.value.id in self.tops:
                yield "L18"
        elif isinstance(holder, ast.Call) and holder.func is node:
            if node.attr not in METHODS | self.package.methods | {"__init__"}:
                yield "L25"
        elif node.attr not in self.package.stored and not (isinstance(holder, ast.keyword) and holder.arg == "key"):
            yield "L25"

    def call(self, node):
        if not isinstance(node, ast.Call):
            return
        name = getattr(node.func, "id", "")
        method = getattr(node.func, "attr", "")
        if [given for given in node.args if isinstance(given, ast.Starred)] or None in [
                each.arg for each in node.keywords]:
            yield "L7"
        if name in FUNCTIONS | ERRORS or method in METHODS:
            if {each.arg for each in node.keywords} - KEYWORDS.get(name, set()):
                yield "L22"
        if [each for each in node.keywords if each.arg in ("reverse", "strict") and name in KEYWORDS
                and not isinstance(each.value, ast.Constant)]:
            yield "L22"
        if name == "isinstance" and not isinstance(node.args[-1], (ast.Name, ast.Tuple)):
            yield "L22"
        if name in WALKED or (method in {"items", "keys", "values"} and not node.args):
            holder = self.parents[node]
            walked = isinstance(holder, (ast.For, ast.comprehension)) and holder.iter is node
            taken = isinstance(holder, ast.Call) and node in holder.args and (
                getattr(holder.func, "id", "") in WALKS and (holder.args[0] is node or holder.func.id == "zip")
                or getattr(holder.func, "attr", "") == "join" and isinstance(holder.func.value, ast.Constant))
            if not walked and not taken:
                yield "L23"

    def expression(self, node):
        if isinstance(node, (ast.Set, ast.SetComp)):
            yield "L24"
        elif isinstance(node, ast.expr) and not isinstance(node, EXPRESSIONS):
            yield "L7"
        if isinstance(node, ast.Constant) and not (node.value is None or type(node.value) in (int, str, bool)):
            yield "L7"
        if isinstance(node, ast.BinOp):
            if isinstance(node.op, (ast.Div, ast.MatMult)):
                yield "L7"
            if isinstance(node.op, ast.Pow) and not (
                    isinstance(node.right, ast.Constant) and node.right.value in range(65)):
                yield "L27"
        if isinstance(node, ast.AugAssign) and isinstance(node.op, (ast.Div, ast.MatMult, ast.Pow)):
            yield "L7"
        if isinstance(node, ast.Constant) and isinstance(node.value, str) and "%" in node.value:
            yield "L27"
        if isinstance(node, ast.ListComp) and (len(node.generators) > 1 or len(node.generators[0].ifs) > 1):
            yield "L7"
        if isinstance(node, ast.FormattedValue):
            if not isinstance(node.value, ast.Name) or node.conversion not in (-1, 114) or node.format_spec:
                yield "L7"
        if isinstance(node, ast.Dict) and None in node.keys:
            yield "L7"
        if isinstance(node, ast.Compare) and [op for op in node.ops if isinstance(op, (ast.Is, ast.IsNot))]:
            right = node.comparators[-1]
            if not isinstance(right, ast.Constant) or not (right.value is None or isinstance(right.value, bool)):
                yield "L20"

    def error(self, node):
        if isinstance(node, ast.ExceptHandler):
            kinds = node.type.elts if isinstance(node.type, ast.Tuple) else [node.type]
            names = [getattr(kind, "id", "") for kind in kinds]
            if not names or "" in names or set(names) & HANDLERS_OUT:
                yield "L19"
        if isinstance(node, ast.Raise):
            if not isinstance(node.exc, ast.Call) or not isinstance(node.exc.func, ast.Name):
                yield "L19"
            if node.cause and not (isinstance(node.cause, ast.Name) or getattr(node.cause, "value", 0) is None):
                yield "L19"

    def loop(self, node):
        """A loop that changes what it walks."""
        if not isinstance(node, ast.For):
            return
        walked = [node.iter]
        if isinstance(node.iter, ast.Call):
            walked = node.iter.args + ([node.iter.func.value] if isinstance(node.iter.func, ast.Attribute) else [])
        walked = {ast.dump(each) for each in walked if isinstance(each, (ast.Name, ast.Attribute))}
        for part in [each for statement in node.body for each in ast.walk(statement)]:
            changed = None
            if isinstance(part, ast.Call) and isinstance(part.func, ast.Attribute) and part.func.attr in CHANGES:
                changed = part.func.value
            if isinstance(part, ast.Subscript) and isinstance(part.ctx, ast.Store):
                changed = part.value
            if isinstance(part, ast.AugAssign):
                changed = part.target
            if changed is not None and ast.dump(changed).replace("Store()", "Load()") in walked:
                yield "L23"
