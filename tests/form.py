"""Tells where a file of the package leaves the part of Python that it keeps to.

It is narrower than the rules where that is simpler: no lambda, no def within a def, no annotation, no set, no
`__main__.py`. What it answers are pairs of a rule's number and a line.
"""

import ast
import builtins
import re

PACKAGE = "ferrymemory"

ERRORS = """Exception ValueError TypeError KeyError IndexError LookupError ZeroDivisionError ArithmeticError
    OverflowError RuntimeError NotImplementedError AttributeError StopIteration""".split()
BUILTINS = """len range enumerate zip min max sum abs sorted reversed int str bool list tuple dict isinstance ord repr
    any all divmod""".split()
METHODS = """append clear copy count endswith extend find get index insert isalnum isalpha isdigit islower isspace
    isupper items join keys ljust lower lstrip partition pop remove replace reverse rfind rjust rpartition rsplit
    rstrip setdefault split splitlines startswith strip update upper values zfill bit_length""".split()
CHANGING = "append clear extend insert pop remove reverse setdefault update".split()
NO_NAMES = """register mro elements open input version_info with_traceback add_note attrgetter breakpoint builtins
    compile copyright credits delattr dir eval exec exit gc getattr globals hasattr help id importlib license locals
    methodcaller os quit setattr super type vars sys format format_map""".split()
NO_WORDS = re.compile(r"\b(type|typing|typing_extensions|enum|Enum|IntEnum|StrEnum|Flag|IntFlag|Generic|Protocol|ABC|"
                      r"ABCMeta|namedtuple|NamedTuple|TypedDict|TYPE_CHECKING|abstractmethod)\b|"
                      r"dataclass|overload|contextmanager")
NO_VALUES = "items keys values pop update append clear extend insert remove reverse setdefault sort args encode".split()
FREE_VALUES = "count index title find get join lower upper split strip copy add".split()
PYTHONS = {name for value in ("", 0, [], {}, set(), b"") for name in dir(value)}

STATEMENTS = (ast.Assign, ast.AugAssign, ast.If, ast.While, ast.For, ast.Return, ast.Break, ast.Continue, ast.Pass,
              ast.Raise, ast.Try, ast.Expr, ast.FunctionDef, ast.ClassDef, ast.ImportFrom)
EXPRESSIONS = (ast.Constant, ast.Name, ast.List, ast.Tuple, ast.Dict, ast.BinOp, ast.UnaryOp, ast.BoolOp, ast.Compare,
               ast.IfExp, ast.Call, ast.Attribute, ast.Subscript, ast.Slice, ast.ListComp, ast.JoinedStr,
               ast.FormattedValue)
WALKED = ("zip", "enumerate", "reversed", "range")
WALKERS = ("list", "tuple", "dict", "sorted", "sum", "any", "all", "enumerate", "zip", "min", "max")
KEYWORDS = {"sorted": ("key", "reverse"), "min": ("key", "default"), "max": ("key", "default"), "sum": ("start",),
            "enumerate": ("start",), "zip": ("strict",)}


def called_name(node):
    return node.func.id if isinstance(node, ast.Call) and isinstance(node.func, ast.Name) else None


def bound_names(function):
    names = [arg.arg for arg in function.args.args]
    for node in ast.walk(function):
        if isinstance(node, ast.Name) and isinstance(node.ctx, ast.Store):
            names.append(node.id)
        if isinstance(node, ast.ExceptHandler) and node.name:
            names.append(node.name)
    return names


def plain_value(node, functions=()):
    if isinstance(node, ast.Constant):
        return isinstance(node.value, (int, str)) or node.value is None
    if isinstance(node, (ast.Tuple, ast.List)):
        return all(plain_value(part, functions) for part in node.elts)
    if isinstance(node, ast.Dict):
        return all(plain_value(part, functions) for part in node.keys + node.values)
    return isinstance(node, ast.Name) and node.id in functions


class Checker:
    def __init__(self, source):
        self.source = source
        self.tree = ast.parse(source)
        self.found = []
        self.parents = {child: node for node in ast.walk(self.tree) for child in ast.iter_child_nodes(node)}
        self.functions = [node for node in ast.walk(self.tree) if isinstance(node, ast.FunctionDef)]
        self.classes = [node for node in ast.walk(self.tree) if isinstance(node, ast.ClassDef)]
        self.imports = [alias.asname or alias.name for node in self.tree.body if isinstance(node, ast.ImportFrom)
                        for alias in node.names]
        self.kept = {node.targets[0].id: node.value for node in self.tree.body
                     if isinstance(node, ast.Assign) and isinstance(node.targets[0], ast.Name)}

    def say(self, rule, node):
        self.found.append((rule, getattr(node, "lineno", node if isinstance(node, int) else 0)))

    def check(self):
        for part in (self.lines, self.top, self.defs, self.class_forms, self.nodes, self.names, self.walks, self.calls,
                     self.errors, self.kept_values, self.class_uses):
            part()
        return sorted(set(self.found))

    def lines(self):
        lines = self.source.split("\n")
        if len(lines) > 401:
            self.say("L10", len(lines))
        for number, line in enumerate(lines, start=1):
            if len(line) > 120 or "\t" in line:
                self.say("L10", number)
            if not all(" " <= sign <= "~" for sign in line):
                self.say("L14", number)
            if NO_WORDS.search(line):
                self.say("L17", number)

    def top(self):
        bound = []
        defined = []
        for place, node in enumerate(self.tree.body):
            if isinstance(node, ast.ImportFrom):
                bound += [alias.name for alias in node.names]
                own = node.module and node.module.startswith(PACKAGE + ".") and node.level == 0
                if not own or any(alias.name == "*" or alias.asname for alias in node.names):
                    self.say("L2", node)
                if any(not isinstance(other, (ast.ImportFrom, ast.Expr)) for other in self.tree.body[:place]):
                    self.say("L2", node)
            elif isinstance(node, (ast.FunctionDef, ast.ClassDef)):
                bound.append(node.name)
                defined += [node.name] if isinstance(node, ast.FunctionDef) else []
            elif isinstance(node, ast.Assign) and isinstance(node.targets[0], ast.Name):
                bound.append(node.targets[0].id)
                if not plain_value(node.value, defined):
                    self.say("L3", node)
                inner = [part for part in ast.walk(node.value) if part is not node.value]
                if any(isinstance(part, (ast.List, ast.Dict)) for part in inner):
                    self.say("L15", node)
            elif place or not isinstance(node, ast.Expr):
                self.say("L3", node)
        if len(set(bound)) < len(bound):
            self.say("L15", 1)

    def defs(self):
        class_names = [node.name for node in self.classes]
        for node in self.functions:
            given = node.args
            if given.vararg or given.kwarg or given.kwonlyargs or given.posonlyargs or node.decorator_list:
                self.say("L4", node)
            if not all(plain_value(value) for value in given.defaults):
                self.say("L4", node)
            if not isinstance(self.parents[node], (ast.Module, ast.ClassDef)):
                self.say("L4", node)
            if node.returns or any(arg.annotation for arg in given.args):
                self.say("L21", node)
            if node.end_lineno - node.lineno + 1 > 40:
                self.say("L10", node)
            for name in bound_names(node):
                if name in class_names or name in self.imports or hasattr(builtins, name):
                    self.say("L15", node)

    def class_forms(self):
        for node in self.classes:
            if node.decorator_list or node.keywords or len(node.bases) > 1:
                self.say("L5", node)
            if self.parents[node] is not self.tree:
                self.say("L15", node)
            for base in node.bases:
                if getattr(base, "id", None) in ("StopIteration", "AttributeError", None):
                    self.say("L18", node)
            methods = [part for part in node.body if isinstance(part, ast.FunctionDef)]
            texts = [part for part in node.body if isinstance(part, ast.Expr) and isinstance(part.value, ast.Constant)]
            if len(methods) + len(texts) < len(node.body):
                self.say("L5", node)
            if len({method.name for method in methods}) < len(methods):
                self.say("L18", node)
            for method in methods:
                self.method_form(method)

    def class_uses(self):
        names = [node.name for node in self.classes] + [name for name in self.imports if re.search("[a-z]", name[1:])
                                                         and name[0].isupper()]
        for node in ast.walk(self.tree):
            if isinstance(node, ast.Name) and node.id in names:
                parent = self.parents[node]
                called = isinstance(parent, ast.Call) and parent.func is node
                if not called and not isinstance(parent, (ast.ExceptHandler, ast.ClassDef)):
                    self.say("L18", node)

    def method_form(self, method):
        if method.name == "__init__":
            if any(isinstance(part, ast.Return) and part.value for part in ast.walk(method)):
                self.say("L28", method)
        elif method.name.startswith("__"):
            self.say("L28", method)
        elif method.name in PYTHONS and method.name not in METHODS + ["add", "discard"]:
            self.say("L26", method)

    def nodes(self):
        for node in ast.walk(self.tree):
            if isinstance(node, ast.stmt) and not isinstance(node, STATEMENTS):
                self.say({ast.Import: "L2", ast.AnnAssign: "L21"}.get(type(node), "L6"), node)
            if isinstance(node, ast.expr) and not isinstance(node, EXPRESSIONS):
                self.say("L24" if isinstance(node, ast.Set) else "L7", node)
            if isinstance(node, (ast.For, ast.While)) and node.orelse:
                self.say("L6", node)
            if isinstance(node, ast.Try) and node.finalbody or isinstance(node, ast.Assign) and len(node.targets) > 1:
                self.say("L6", node)
            if isinstance(node, ast.Expr) and not isinstance(node.value, (ast.Call, ast.Constant)):
                self.say("L6", node)
            if isinstance(node, ast.ImportFrom) and self.parents[node] is not self.tree:
                self.say("L2", node)
            if isinstance(node, ast.BinOp):
                self.operation(node)
            if isinstance(node, ast.Constant):
                self.constant(node)
            if isinstance(node, ast.ListComp):
                if len(node.generators) > 1 or len(node.generators[0].ifs) > 1:
                    self.say("L7", node)
            if isinstance(node, ast.FormattedValue) and not isinstance(node.value, ast.Name):
                self.say("L7", node)
            if isinstance(node, ast.Compare):
                self.comparison(node)

    def operation(self, node):
        if isinstance(node.op, (ast.Div, ast.MatMult)):
            self.say("L7", node)
        if isinstance(node.op, ast.Pow) and not isinstance(node.right, ast.Constant):
            self.say("L27", node)

    def constant(self, node):
        if isinstance(node.value, (float, bytes, complex)):
            self.say("L7", node)
        if isinstance(node.value, str) and "%" in node.value:
            self.say("L27", node)

    def comparison(self, node):
        for operator, right in zip(node.ops, node.comparators):
            if isinstance(operator, (ast.Is, ast.IsNot)):
                if not isinstance(right, ast.Constant) or right.value not in (None, True, False):
                    self.say("L20", node)

    def names(self):
        for node in ast.walk(self.tree):
            name = getattr(node, "id", None) or getattr(node, "attr", None) or getattr(node, "arg", None)
            if isinstance(node, (ast.FunctionDef, ast.ClassDef)):
                name = node.name
            if not isinstance(name, str):
                continue
            if name in NO_NAMES:
                self.say("L17", node)
            if not re.fullmatch("[A-Za-z][A-Za-z0-9_]*", name) and name != "__init__":
                self.say("L12", node)
            if isinstance(node, ast.Name) and hasattr(builtins, name) and name not in BUILTINS + ERRORS:
                self.say("L8", node)
            if isinstance(node, ast.Name) and name in BUILTINS:
                parent = self.parents[node]
                if not isinstance(parent, ast.Call) or parent.func is not node and called_name(parent) != "isinstance":
                    self.say("L22", node)
            if isinstance(node, ast.Attribute) and isinstance(node.ctx, ast.Store):
                if name in NO_VALUES or name in PYTHONS and name not in FREE_VALUES:
                    self.say("L26", node)

    def walks(self):
        for node in ast.walk(self.tree):
            view = isinstance(node, ast.Call) and getattr(node.func, "attr", None) in ("items", "keys", "values")
            if called_name(node) in WALKED or view:
                parent = self.parents[node]
                behind_in = isinstance(parent, (ast.For, ast.comprehension)) and parent.iter is node
                if not behind_in and called_name(parent) not in WALKERS:
                    self.say("L23", node)
            if isinstance(node, ast.For):
                self.changed_walk(node)

    def changed_walk(self, loop):
        walked = loop.iter
        if isinstance(walked, ast.Call) and isinstance(walked.func, ast.Attribute):
            walked = walked.func.value
        shown = [ast.dump(part) for part in ([walked] if called_name(walked) is None else walked.args)]
        for node in [part for line in loop.body for part in ast.walk(line)]:
            if isinstance(node, ast.Call) and getattr(node.func, "attr", None) in CHANGING:
                if ast.dump(node.func.value) in shown:
                    self.say("L23", node)
            if isinstance(node, ast.Subscript) and isinstance(node.ctx, ast.Store) and ast.dump(node.value) in shown:
                self.say("L23", node)

    def calls(self):
        for node in ast.walk(self.tree):
            if isinstance(node, ast.Attribute) and not isinstance(node.ctx, ast.Store) and node.attr in METHODS:
                parent = self.parents[node]
                if not (isinstance(parent, ast.Call) and parent.func is node):
                    self.say("L25", node)
            if isinstance(node, ast.Call):
                name = called_name(node)
                if any(keyword.arg is None for keyword in node.keywords):
                    self.say("L7", node)
                if name in BUILTINS and any(word.arg not in KEYWORDS.get(name, ()) for word in node.keywords):
                    self.say("L22", node)

    def errors(self):
        for node in ast.walk(self.tree):
            if isinstance(node, ast.ExceptHandler):
                taken = node.type.elts if isinstance(node.type, ast.Tuple) else [node.type]
                names = [getattr(error, "id", None) for error in taken]
                if None in names or set(names) & set(ERRORS) - {"KeyError", "ZeroDivisionError", "StopIteration"}:
                    self.say("L19", node)
            if isinstance(node, ast.Raise) and not isinstance(node.exc, ast.Call):
                self.say("L19", node)

    def kept_values(self):
        for node in ast.walk(self.tree):
            if not isinstance(node, ast.Name) or not isinstance(self.kept.get(node.id), (ast.List, ast.Dict)):
                continue
            parent = self.parents[node]
            read = (isinstance(parent, ast.Subscript) and isinstance(parent.ctx, ast.Load) and parent.value is node
                    or isinstance(parent, ast.Compare)
                    or isinstance(parent, (ast.For, ast.comprehension))
                    or called_name(parent) in ("len", "list", "dict", "tuple", "sorted")
                    or isinstance(parent, ast.Attribute) and parent.attr in ("get", "items", "keys", "values"))
            if isinstance(node.ctx, ast.Load) and not read:
                self.say("L15", node)


def faults(source):
    """The pairs of a rule and a line where one file leaves the rules."""
    return Checker(source).check()


def package_faults(sources):
    """The rules that the files of a package, names and sources, break together."""
    found = []
    trees = {name: ast.parse(source) for name, source in sources.items()}
    methods, values, defined, drawn = set(), set(), {}, {}
    for name, tree in trees.items():
        plain = name[:-len(".py")]
        if not re.fullmatch("[a-z][a-z0-9_]*", plain) and name != "__init__.py" or not name.endswith(".py"):
            found.append(("L1", name))
        if plain != "__init__" and hasattr(builtins, plain) or re.match("test", plain) or NO_WORDS.search(plain):
            found.append(("L14", name))
        defined[plain] = {part.name for part in tree.body if isinstance(part, (ast.FunctionDef, ast.ClassDef))}
        defined[plain] |= {part.targets[0].id for part in tree.body if isinstance(part, ast.Assign)}
        drawn[plain] = set()
        for node in ast.walk(tree):
            if isinstance(node, ast.ClassDef):
                methods |= {part.name for part in node.body if isinstance(part, ast.FunctionDef)}
            if isinstance(node, ast.Attribute) and isinstance(node.ctx, ast.Store):
                values.add(node.attr)
    for name, tree in trees.items():
        for node in tree.body:
            if isinstance(node, ast.ImportFrom):
                source = node.module.split(".")[-1]
                drawn[name[:-len(".py")]].add(source)
                found += [("L16", name) for alias in node.names if alias.name not in defined.get(source, set())]
    found += [("L18", name) for name in sorted(methods & values)]
    found += [("L25", attribute.attr) for tree in trees.values() for attribute in called_attributes(tree)
              if attribute.attr not in METHODS and attribute.attr not in methods]
    return found + [("L16", name) for name in drawn if name in reached(drawn, name)]


def called_attributes(tree):
    return [node.func for node in ast.walk(tree) if isinstance(node, ast.Call) and isinstance(node.func, ast.Attribute)]


def reached(drawn, name):
    """All files from which a file draws, in however many steps."""
    found = set()
    waiting = list(drawn[name])
    while waiting:
        other = waiting.pop()
        if other not in found:
            found.add(other)
            waiting += drawn.get(other, ())
    return found
