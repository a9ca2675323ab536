"""A checker of the package's files by the rules of ../shared/LANGUAGE.md.

It knows the part of the subset that the package uses, and refuses all else: who
needs more reads the rule and adds it here. Each fault is a pair (rule, line).
"""

import ast
import builtins
import io
import keyword
import re
import sys
import tokenize

# L6 and L7: what code consists of here. No try, with, match, yield, lambda,
# generator expression, set literal or float.
NODES = (
    ast.Module, ast.Expr, ast.Constant, ast.Name, ast.Load, ast.Store, ast.Del, ast.ImportFrom, ast.alias,
    ast.FunctionDef, ast.arguments, ast.arg, ast.ClassDef, ast.Return, ast.Assign, ast.AugAssign,
    ast.Delete, ast.For, ast.While, ast.If, ast.Raise, ast.Break, ast.Continue, ast.Pass, ast.BoolOp,
    ast.BinOp, ast.UnaryOp, ast.IfExp, ast.Dict, ast.List, ast.Tuple, ast.ListComp, ast.DictComp,
    ast.comprehension, ast.Compare, ast.Call, ast.keyword, ast.JoinedStr, ast.FormattedValue,
    ast.Attribute, ast.Subscript, ast.Slice, ast.boolop, ast.operator, ast.unaryop, ast.cmpop,
)
# L8.
BUILTINS = {
    "len", "range", "enumerate", "zip", "min", "max", "sum", "abs", "sorted", "reversed", "int", "str",
    "bool", "list", "tuple", "dict", "set", "isinstance", "any", "all", "super", "ValueError",
}
# L23: what is iterated on the spot, and what iterates it.
ITERATED = {"zip", "enumerate", "reversed", "range"}
VIEWS = {"items", "keys", "values"}
ITERATING = {
    "list", "tuple", "dict", "sorted", "sum", "any", "all", "enumerate", "zip", "min", "max",
}
# L25, but for those with rules of their own.
METHODS = {
    "append", "clear", "copy", "count", "endswith", "extend", "find", "get", "index", "insert", "isalnum",
    "isalpha", "isascii", "isdigit", "islower", "isspace", "isupper", "items", "join", "keys", "ljust",
    "lower", "lstrip", "partition", "pop", "remove", "replace", "reverse", "rfind", "rjust",
    "rpartition", "rsplit", "rstrip", "setdefault", "split", "splitlines", "startswith", "strip",
    "update", "upper", "values", "zfill", "bit_length",
}
# L22: the keywords of builtins.
KEYWORDS = {
    "sorted": {"key", "reverse"}, "min": {"key", "default"}, "max": {"key", "default"},
    "sum": {"start"}, "enumerate": {"start"}, "zip": {"strict"},
}
# L17.
NEVER = {
    "register", "mro", "elements", "open", "input", "law", "version_info", "with_traceback", "add_note",
}
NOT_NAMES = {
    "attrgetter", "breakpoint", "builtins", "compile", "copyright", "credits", "delattr", "dir", "eval",
    "exec", "exit", "gc", "getattr", "globals", "hasattr", "help", "id", "importlib", "license", "locals",
    "methodcaller", "os", "quit", "setattr", "type", "vars", "sys",
}
BARRED_WORDS = re.compile(
    r"\b(type|typing|typing_extensions|enum|Enum|IntEnum|StrEnum|Flag|IntFlag|Generic|Protocol|ABC|ABCMeta"
    r"|namedtuple|NamedTuple|TypedDict|TYPE_CHECKING|abstractmethod)\b|dataclass|overload|contextmanager"
)
# L26: what strings, numbers, lists, dicts, sets and bytes have.
TAKEN = {
    name for kind in (str, int, list, dict, set, bytes, tuple) for name in dir(kind)
}
FREE_METHODS = METHODS | {"add", "discard"}
FREE_ATTRIBUTES = {
    "count", "index", "title", "find", "get", "join", "lower", "upper", "split", "strip", "copy", "add",
}


def faults_of(files):
    """All faults of a package, told as the text of each of its files by its name."""
    found = []
    trees = {}
    for name, text in files.items():
        found += [(name, *fault) for fault in faults_of_text(text) + faults_of_file_name(name)]
        trees[name] = ast.parse(text)
    methods, attributes = members_of(trees.values())
    for name, tree in trees.items():
        checker = Checker(tree, trees, methods, attributes)
        found += [(name, *fault) for fault in checker.faults()]
    found += [(name, "L16", 0) for name in trees if name in reached_from(name, trees)]
    return found


def faults_of_text(text):
    """The faults of a file that its characters tell."""
    found = []
    lines = text.split("\n")
    if len(text.splitlines()) > 399:
        found.append(("L10", 400))
    for at, line in enumerate(lines, 1):
        if len(line) > 120:
            found.append(("L10", at))
        if any(not " " <= sign <= "~" for sign in line):
            found.append(("L14", at))
        if "_wall" in line or "_WallAttr" in line:
            found.append(("L12", at))
    for token in tokenize.generate_tokens(io.StringIO(text).readline):
        if token.type == tokenize.STRING:
            if re.search(r"\\[^nt\\'\"]", token.string) or token.string[0] not in "\"'f":
                found.append(("L27", token.start[0]))
            if not token.string.startswith('"""') and BARRED_WORDS.search(token.string):
                found.append(("L17", token.start[0]))
        if token.type == tokenize.NAME and BARRED_WORDS.search(token.string):
            found.append(("L17", token.start[0]))
    return found


def faults_of_file_name(name):
    word = name.removesuffix(".py")
    if word == "__init__":
        return []
    plain = re.fullmatch("[a-z][a-z0-9_]*", word) and not word.startswith(("law_", "test_"))
    barred = {"test", "tests", "testing", "site", "conftest", "sitecustomize", "usercustomize"}
    if plain and word not in barred | NEVER | set(dir(builtins)) | set(sys.stdlib_module_names):
        return []
    return [("L14", 0)]


def imports_of(tree):
    """The names of the files that a file imports from."""
    return [
        node.module.removeprefix("trireme.") + ".py"
        for node in ast.walk(tree) if isinstance(node, ast.ImportFrom) and node.module
    ]


def reached_from(name, trees):
    """All files that a file imports from, also through others."""
    seen, open_ones = set(), imports_of(trees[name])
    while open_ones:
        other = open_ones.pop()
        if other not in seen and other in trees:
            seen.add(other)
            open_ones += imports_of(trees[other])
    return seen


def members_of(trees):
    """The names of all methods and of all attributes that methods assign."""
    methods, attributes = set(), set()
    for tree in trees:
        for node in ast.walk(tree):
            if isinstance(node, ast.ClassDef):
                methods |= {item.name for item in node.body if isinstance(item, ast.FunctionDef)}
            if isinstance(node, ast.Attribute) and isinstance(node.ctx, ast.Store):
                attributes.add(node.attr)
    return methods, attributes


class Checker:
    """Checks one file."""

    def __init__(self, tree, trees, methods, attributes):
        self.tree = tree
        self.trees = trees
        self.methods = methods
        self.attributes = attributes
        self.found = []
        self.parents = {
            child: node for node in ast.walk(tree) for child in ast.iter_child_nodes(node)
        }

    def demand(self, holds, rule, node):
        if not holds:
            self.found.append((rule, getattr(node, "lineno", 0)))

    def faults(self):
        self.check_module()
        for node in ast.walk(self.tree):
            self.demand(isinstance(node, NODES), "L6", node)
            check = getattr(self, "check_" + type(node).__name__, None)
            if check is not None:
                check(node)
        return self.found

    def check_module(self):
        """L2, L3 and L15: what stands at module level."""
        bound = []
        behind_imports = False
        for k, node in enumerate(self.tree.body):
            if isinstance(node, ast.ImportFrom):
                self.demand(not behind_imports, "L2", node)
                bound += [alias.name for alias in node.names]
                continue
            docstring = isinstance(node, ast.Expr) and isinstance(node.value, ast.Constant)
            if docstring:
                self.demand(k == 0 and isinstance(node.value.value, str), "L3", node)
                continue
            behind_imports = True
            if isinstance(node, (ast.FunctionDef, ast.ClassDef)):
                bound.append(node.name)
            elif isinstance(node, ast.Assign):
                one = len(node.targets) == 1 and isinstance(node.targets[0], ast.Name)
                self.demand(one and self.is_literal(node.value, 0), "L3", node)
                bound += [target.id for target in node.targets if isinstance(target, ast.Name)]
            else:
                self.demand(False, "L3", node)
        self.demand(len(set(bound)) == len(bound), "L15", self.tree)
        self.module_names = set(bound)
        self.fixed = {
            alias.name for node in self.tree.body if isinstance(node, ast.ImportFrom) for alias in node.names
        } | {node.name for node in self.tree.body if isinstance(node, ast.ClassDef)}
        self.demand(not self.module_names & set(dir(builtins)), "L15", self.tree)

    def is_literal(self, node, depth):
        """L3 and L15: a plain value, with no list or dict within another value."""
        if isinstance(node, ast.Constant):
            return isinstance(node.value, (int, str, type(None)))
        if isinstance(node, ast.UnaryOp):
            return isinstance(node.op, ast.USub) and isinstance(node.operand, ast.Constant)
        if isinstance(node, ast.Tuple):
            return all(self.is_literal(item, depth + 1) for item in node.elts)
        if depth > 0:
            return False
        if isinstance(node, ast.List):
            return all(self.is_literal(item, 1) for item in node.elts)
        return isinstance(node, ast.Dict) and all(
            self.is_literal(item, 1) for item in node.keys + node.values
        )

    def check_ImportFrom(self, node):
        self.demand(node.level == 0 and node.module and node.module.startswith("trireme."), "L2", node)
        self.demand(node in self.tree.body, "L2", node)
        other = self.trees.get(str(node.module).removeprefix("trireme.") + ".py")
        self.demand(other is not None, "L2", node)
        for alias in node.names:
            self.demand(alias.asname is None and alias.name != "*", "L2", node)
            self.demand(other is not None and alias.name in defined_in(other), "L16", node)

    def check_FunctionDef(self, node):
        self.demand(not node.decorator_list and node.returns is None, "L4", node)
        self.demand(node.end_lineno - node.lineno < 40, "L10", node)
        given = node.args
        self.demand(given.vararg is None and given.kwarg is None and not given.posonlyargs, "L4", node)
        self.demand(not given.kwonlyargs and not given.kw_defaults, "L4", node)
        self.demand(all(isinstance(item, ast.Constant) for item in given.defaults), "L4", node)
        self.demand(all(arg.annotation is None for arg in given.args), "L21", node)
        parent = self.parents[node]
        self.demand(isinstance(parent, (ast.Module, ast.ClassDef)), "L4", node)
        if isinstance(parent, ast.ClassDef):
            self.check_method(node)
        else:
            self.check_name(node.name, node)
        if node.name == "__init__":
            returns = [item for item in ast.walk(node) if isinstance(item, ast.Return)]
            self.demand(not returns, "L28", node)
        self.check_loops(node)

    def check_method(self, node):
        if node.name != "__init__":
            self.demand(not node.name.startswith("__"), "L5", node)
            self.demand(node.name not in TAKEN or node.name in FREE_METHODS, "L26", node)
            self.demand(node.name not in self.attributes, "L18", node)
        self.demand(node.name not in NEVER | NOT_NAMES, "L17", node)

    def check_ClassDef(self, node):
        self.demand(isinstance(self.parents[node], ast.Module), "L15", node)
        self.demand(not node.decorator_list and not node.keywords and len(node.bases) <= 1, "L5", node)
        for item in node.body:
            docstring = isinstance(item, ast.Expr) and isinstance(item.value, ast.Constant)
            self.demand(docstring or isinstance(item, ast.FunctionDef), "L5", item)
        names = [item.name for item in node.body if isinstance(item, ast.FunctionDef)]
        self.demand(len(set(names)) == len(names), "L18", node)
        self.check_name(node.name, node)

    def check_name(self, name, node):
        self.demand(re.fullmatch("_|_?[A-Za-z][A-Za-z0-9_]*", name) is not None, "L12", node)
        self.demand(name not in NEVER | NOT_NAMES, "L17", node)
        self.demand(name not in dir(builtins) and not keyword.issoftkeyword(name) or name == "_", "L15", node)

    def check_arg(self, node):
        self.check_name(node.arg, node)
        self.demand(node.arg not in self.fixed, "L15", node)

    def check_Name(self, node):
        if isinstance(node.ctx, ast.Load):
            self.demand(node.id != "_", "L12", node)
            known = node.id in self.module_names or node.id in self.locals_around(node)
            self.demand(known or node.id in BUILTINS, "L8", node)
            if not known and node.id in BUILTINS:
                self.check_builtin(node)
        elif not isinstance(self.scope_of(node), ast.Module):
            self.check_name(node.id, node)
            self.demand(node.id not in self.fixed, "L15", node)

    def check_builtin(self, node):
        """L22: builtins are called, not kept; L24: where a set may stand."""
        parent = self.parents[node]
        if isinstance(parent, ast.Call) and parent.func is node:
            allowed = KEYWORDS.get(node.id, set())
            self.demand({word.arg for word in parent.keywords} <= allowed, "L22", node)
            if node.id in ITERATED:
                self.demand(self.is_iterated(parent), "L23", node)
            if node.id == "set":
                self.demand(self.may_be_a_set(parent), "L24", node)
            if node.id == "super":
                told = self.parents[parent]
                self.demand(isinstance(told, ast.Attribute) and told.attr == "__init__", "L5", node)
            if node.id == "isinstance":
                self.demand(len(parent.args) == 2, "L22", node)
            return
        beside = isinstance(parent, ast.Call) and getattr(parent.func, "id", "") == "isinstance"
        base = isinstance(parent, ast.ClassDef)
        self.demand(beside or base, "L22", node)

    def may_be_a_set(self, call):
        parent = self.parents[call]
        if isinstance(parent, ast.Call) and isinstance(parent.func, ast.Name):
            return parent.func.id in ("sorted", "len") and not parent.keywords
        return isinstance(parent, ast.Compare)

    def is_iterated(self, node):
        """Whether what a node gives is iterated on the spot."""
        parent = self.parents[node]
        if isinstance(parent, (ast.For, ast.comprehension)):
            return parent.iter is node
        if isinstance(parent, ast.Call) and isinstance(parent.func, ast.Name):
            return parent.func.id in ITERATING and node in parent.args
        return isinstance(parent, ast.Compare) and isinstance(parent.ops[0], (ast.In, ast.NotIn))

    def scope_of(self, node):
        """The function, or the module, in which something stands."""
        while not isinstance(node, (ast.FunctionDef, ast.Module)):
            node = self.parents[node]
        return node

    def locals_around(self, node):
        scope = self.scope_of(node)
        names = {
            item.id for item in ast.walk(scope)
            if isinstance(item, ast.Name) and not isinstance(item.ctx, ast.Load)
        }
        return names | {item.arg for item in ast.walk(scope) if isinstance(item, ast.arg)}

    def check_Call(self, node):
        self.demand(not any(isinstance(item, ast.Starred) for item in node.args), "L7", node)
        self.demand(all(word.arg is not None for word in node.keywords), "L7", node)
        if isinstance(node.func, ast.Attribute):
            name = node.func.attr
            self.demand(name in self.methods | METHODS, "L25", node)
            self.demand(name in self.methods or not node.keywords, "L25", node)
            if name in VIEWS:
                self.demand(not node.args and self.is_iterated(node), "L23", node)
        else:
            self.demand(isinstance(node.func, ast.Name), "L7", node)

    def check_Attribute(self, node):
        parent = self.parents[node]
        if isinstance(parent, ast.Call) and parent.func is node:
            return
        self.demand(not node.attr.startswith("__"), "L8", node)
        self.demand(node.attr in self.attributes, "L25", node)
        self.demand(node.attr not in TAKEN or node.attr in FREE_ATTRIBUTES, "L26", node)
        self.demand(node.attr not in NEVER, "L17", node)

    def check_Constant(self, node):
        self.demand(type(node.value) in (int, str, bool, type(None)), "L7", node)
        if isinstance(node.value, str) and not isinstance(self.parents[node], ast.Expr):
            self.demand("%" not in node.value and "__" not in node.value, "L27", node)

    def check_BinOp(self, node):
        self.demand(not isinstance(node.op, (ast.Div, ast.MatMult, ast.Pow)), "L7", node)

    def check_AugAssign(self, node):
        self.demand(not isinstance(node.op, (ast.Div, ast.MatMult, ast.Pow)), "L7", node)

    def check_Compare(self, node):
        for op, right in zip(node.ops, node.comparators):
            if isinstance(op, (ast.Is, ast.IsNot)):
                fixed = isinstance(right, ast.Constant) and type(right.value) in (bool, type(None))
                self.demand(fixed, "L20", node)

    def check_FormattedValue(self, node):
        self.demand(node.format_spec is None and node.conversion == -1, "L7", node)
        strings = [
            item for item in ast.walk(node)
            if isinstance(item, ast.JoinedStr) or isinstance(getattr(item, "value", None), str)
        ]
        self.demand(not strings, "L27", node)

    def check_Raise(self, node):
        called = isinstance(node.exc, ast.Call) and isinstance(node.exc.func, ast.Name)
        self.demand(called and node.exc.func.id.endswith("Error") and node.cause is None, "L19", node)

    def check_loops(self, function):
        """L23: what a loop iterates over is not modified in it."""
        for loop in ast.walk(function):
            if isinstance(loop, ast.For):
                over = {ast.unparse(item) for item in ast.walk(loop.iter) if isinstance(
                    item, (ast.Name, ast.Attribute, ast.Subscript))}
                for item in loop.body:
                    self.demand(not over & modified_in(item), "L23", loop)


def modified_in(node):
    """The texts of what is modified by items, or by methods that modify."""
    found = set()
    for item in ast.walk(node):
        if isinstance(item, ast.Subscript) and not isinstance(item.ctx, ast.Load):
            found.add(ast.unparse(item.value))
        if isinstance(item, ast.Call) and isinstance(item.func, ast.Attribute):
            if item.func.attr in ("append", "clear", "extend", "insert", "pop", "remove", "reverse", "update"):
                found.add(ast.unparse(item.func.value))
    return found


def defined_in(tree):
    """The names that a file itself defines."""
    names = {node.name for node in tree.body if isinstance(node, (ast.FunctionDef, ast.ClassDef))}
    return names | {
        target.id for node in tree.body if isinstance(node, ast.Assign)
        for target in node.targets if isinstance(target, ast.Name)
    }
