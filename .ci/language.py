"""Checks the package's files against the rules of ../shared/LANGUAGE.md that can be seen in the code.

Use: python3 .ci/language.py FOLDER. It prints one row for each breach and then exits with 1. It can't see every breach.
"""

import ast
import builtins
import os
import re
import sys

OWN_NAMES = """len range enumerate zip min max sum abs sorted reversed int str bool list tuple dict set frozenset
isinstance ord repr any all divmod Exception ValueError TypeError KeyError IndexError LookupError ZeroDivisionError
ArithmeticError OverflowError RuntimeError NotImplementedError AttributeError StopIteration object float bytes""".split()
METHODS = """append clear copy count endswith extend find get index insert isalnum isalpha isdigit islower isspace isupper
items join keys ljust lower lstrip partition pop remove replace reverse rfind rjust rpartition rsplit rstrip setdefault
split splitlines startswith strip update upper values zfill bit_length""".split()
UNUSED = """register mro elements open input version_info with_traceback add_note""".split()
UNUSED_NAMES = """attrgetter breakpoint builtins compile copyright credits delattr dir eval exec exit gc getattr globals
hasattr help id importlib license locals methodcaller os quit setattr super type vars""".split()
UNUSED_WORDS = """type typing typing_extensions enum Enum IntEnum StrEnum Flag IntFlag Generic Protocol ABC ABCMeta
namedtuple NamedTuple TypedDict TYPE_CHECKING abstractmethod""".split()
UNUSED_PARTS = ("dataclass", "overload", "contextmanager")
DUNDER_METHODS = ("__init__", "__eq__", "__repr__", "__str__", "__len__")
WALKED = ("zip", "enumerate", "reversed", "range")
WALKED_METHODS = ("items", "keys", "values")
WALKERS = ("list", "tuple", "dict", "sorted", "sum", "any", "all", "enumerate", "zip", "min", "max")
NO_FILES = ("test", "tests", "testing", "site", "conftest", "sitecustomize", "usercustomize")
NODES = """Module FunctionDef ClassDef Return Assign AugAssign AnnAssign For While If Raise Try ExceptHandler ImportFrom
Import Expr Pass Break Continue BoolOp BinOp UnaryOp Lambda IfExp Dict Set ListComp comprehension Compare Call JoinedStr
FormattedValue Constant Attribute Subscript Name List Tuple Slice Load Store arguments arg keyword alias
And Or Add Sub Mult Mod Pow LShift RShift BitOr BitXor BitAnd FloorDiv Invert Not UAdd USub
Eq NotEq Lt LtE Gt GtE Is IsNot In NotIn""".split()


class File:
    def __init__(self, package, path, main):
        self.package = package
        self.path = path
        self.main = main
        with open(path, encoding="utf-8") as source:
            self.text = source.read()
        self.tree = ast.parse(self.text)
        self.breaches = []

    def breach(self, rule, line, words):
        self.breaches.append(f"{self.path}:{line}: {rule}: {words}")

    def check(self):
        self.check_rows()
        self.check_top()
        for node in ast.walk(self.tree):
            for inner in ast.iter_child_nodes(node):
                inner.above = node
        for node in ast.walk(self.tree):
            self.check_node(node)
        self.check_locals()
        return self.breaches

    def drawn(self):
        """The package's modules that this file draws from."""
        rows = [node for node in self.tree.body if isinstance(node, ast.ImportFrom)]
        return sorted({node.module for node in rows if node.module != "__future__"})

    def methods(self):
        """The names of methods, each with its line."""
        found = {}
        for node in ast.walk(self.tree):
            if isinstance(node, ast.ClassDef):
                for inner in node.body:
                    if isinstance(inner, ast.FunctionDef):
                        found[inner.name] = inner.lineno
        return found

    def values(self):
        """The names of the values that objects are given, each with its line."""
        found = {}
        for node in ast.walk(self.tree):
            if isinstance(node, ast.Attribute) and isinstance(node.ctx, ast.Store):
                found[node.attr] = node.lineno
        return found

    def check_locals(self):
        taken = [node.name for node in self.tree.body if isinstance(node, ast.ClassDef)]
        for node in self.tree.body:
            if isinstance(node, ast.ImportFrom):
                taken.extend(name.asname or name.name for name in node.names)
        for top in self.tree.body:
            for node in ast.walk(top) if isinstance(top, (ast.FunctionDef, ast.ClassDef)) else ():
                name = node.arg if isinstance(node, ast.arg) else node.id if isinstance(node, ast.Name) else None
                if name in taken and not isinstance(getattr(node, "ctx", None), ast.Load):
                    self.breach("L15", node.lineno, f"{name} is a class or an import of this file")

    def check_rows(self):
        rows = self.text.split("\n")
        if len(rows) > 401:
            self.breach("L10", len(rows), "more than 400 lines")
        for line, row in enumerate(rows, start=1):
            if len(row) > 120:
                self.breach("L10", line, "more than 120 characters")
            if re.search(r"[^ -~]", row):
                self.breach("L14", line, "a sign that isn't from the blank to ~")
            for word in re.findall(r"\w+", row):
                if word in UNUSED_WORDS or any(part in word for part in UNUSED_PARTS):
                    self.breach("L17", line, f"the word {word}")

    def check_top(self):
        bound = []
        for node in self.tree.body:
            if isinstance(node, (ast.FunctionDef, ast.ClassDef)):
                bound.append(node.name)
            elif isinstance(node, ast.Assign):
                bound.extend(name.id for name in node.targets if isinstance(name, ast.Name))
                self.check_plain(node.value)
            elif isinstance(node, (ast.ImportFrom, ast.Import)):
                bound.extend(name.name for name in node.names)
            elif not self.is_text(node) and not (self.main and isinstance(node, ast.If)):
                self.breach("L3", node.lineno, "not for the top of a module")
        for name in sorted(set(bound)):
            if bound.count(name) > 1:
                self.breach("L15", 1, f"{name} is bound twice")

    def check_plain(self, value):
        for node in ast.walk(value):
            if isinstance(node, (ast.List, ast.Dict)) and node is not value:
                self.breach("L15", node.lineno, "a list or dict within a value of the top")
            if isinstance(node, (ast.Call, ast.BinOp, ast.Set, ast.ListComp, ast.Subscript, ast.Attribute)):
                self.breach("L3", node.lineno, "no plain value")

    def is_text(self, node):
        return isinstance(node, ast.Expr) and isinstance(node.value, ast.Constant) and isinstance(node.value.value, str)

    def check_node(self, node):
        if type(node).__name__ not in NODES:
            self.breach("L6/L7", getattr(node, "lineno", 1), type(node).__name__)
            return
        check = getattr(self, "check_" + type(node).__name__.lower(), None)
        if check is not None:
            check(node)

    def check_name_text(self, name, line):
        if name.startswith("_") or not re.fullmatch(r"[A-Za-z0-9_]+", name):
            self.breach("L12", line, name)
        if name in UNUSED or name in UNUSED_NAMES:
            self.breach("L17", line, name)

    def check_bound(self, name, line):
        self.check_name_text(name, line)
        if hasattr(builtins, name):
            self.breach("L8/L15", line, f"{name} is a name of Python's own")

    def check_name(self, node):
        main_name = self.main and node.id in ("__name__", "print", "sys")
        if main_name or node.id in ("__all__", "__version__"):
            return
        if isinstance(node.ctx, ast.Store):
            self.check_bound(node.id, node.lineno)
        else:
            self.check_name_text(node.id, node.lineno)
            if hasattr(builtins, node.id) and node.id not in OWN_NAMES:
                self.breach("L8", node.lineno, f"the name {node.id} of Python's own")

    def check_functiondef(self, node):
        if node.name not in DUNDER_METHODS:
            self.check_name_text(node.name, node.lineno)
        if node.decorator_list:
            self.breach("L4", node.lineno, "a decorator")
        if node.end_lineno - node.lineno + 1 > 40:
            self.breach("L10", node.lineno, "a function of more than 40 lines")

    def check_arguments(self, node):
        if node.vararg or node.kwarg or node.kwonlyargs or node.posonlyargs:
            self.breach("L4", 1, "parameters that aren't plain")

    def check_arg(self, node):
        self.check_bound(node.arg, node.lineno)

    def check_classdef(self, node):
        self.check_bound(node.name, node.lineno)
        if node not in self.tree.body or len(node.bases) > 1 or node.keywords or node.decorator_list:
            self.breach("L5/L15", node.lineno, "not a plain class at the top")
        for inner in node.body:
            if not isinstance(inner, (ast.FunctionDef, ast.Pass)) and not self.is_text(inner):
                self.breach("L5", inner.lineno, "not for a class body")

    def check_assign(self, node):
        if len(node.targets) != 1:
            self.breach("L6", node.lineno, "several targets")

    def check_for(self, node):
        if node.orelse:
            self.breach("L6", node.lineno, "else behind a loop")

    check_while = check_for

    def check_try(self, node):
        if node.finalbody:
            self.breach("L6", node.lineno, "finally")

    def check_excepthandler(self, node):
        names = [name.id for name in ast.walk(node.type) if isinstance(name, ast.Name)] if node.type else ["Exception"]
        if "Exception" in names or "TypeError" in names:
            self.breach("L19", node.lineno, "such an error isn't taken")
        if node.name:
            self.check_bound(node.name, node.lineno)

    def check_expr(self, node):
        if not isinstance(node.value, ast.Call) and not self.is_text(node):
            self.breach("L6", node.lineno, "an expression by itself")

    def check_importfrom(self, node):
        if node.module == "__future__" and [name.name for name in node.names] == ["annotations"]:
            return
        if node not in self.tree.body or node.level or not (node.module or "").startswith(self.package + "."):
            self.breach("L2/L16", node.lineno, "not the package's own module by its full name")
        for name in node.names:
            if name.name == "*":
                self.breach("L2", node.lineno, "import *")

    def check_import(self, node):
        if not self.main or [name.name for name in node.names] != ["sys"]:
            self.breach("L16", node.lineno, "import")

    def check_constant(self, node):
        if isinstance(node.value, (float, complex, bytes)) or node.value is Ellipsis:
            self.breach("L7", node.lineno, "a value of another kind")
        if isinstance(node.value, str) and "%" in node.value:
            self.breach("L27", node.lineno, "the percent sign in a text")

    def check_attribute(self, node):
        if node.attr not in DUNDER_METHODS:
            self.check_name_text(node.attr, node.lineno)
        if node.attr in ("format", "format_map") or re.match(r"(f|tb|co|gi|cr)_", node.attr):
            self.breach("L8/L17", node.lineno, node.attr)
        for kind in (str, int, list, dict, set, tuple, bytes):
            if hasattr(kind, node.attr) and node.attr not in METHODS + ["title", "add", "discard", "__init__"]:
                self.breach("L25/L26", node.lineno, node.attr)
                return

    def check_call(self, node):
        if isinstance(node.func, ast.Name) and node.func.id in WALKED:
            self.check_walked(node, node.func.id)
        if isinstance(node.func, ast.Attribute) and node.func.attr in WALKED_METHODS:
            self.check_walked(node, node.func.attr)
        if isinstance(node.func, ast.Name) and node.func.id in ("set", "frozenset"):
            self.check_set(node)

    def check_walked(self, node, name):
        above = node.above
        if isinstance(above, (ast.For, ast.comprehension)) and above.iter is node:
            return
        if isinstance(above, ast.Call) and node in above.args:
            if isinstance(above.func, ast.Name) and above.func.id in WALKERS:
                return
            if isinstance(above.func, ast.Attribute) and above.func.attr == "join":
                return
        self.breach("L23", node.lineno, f"{name} isn't walked on the spot")

    def check_set(self, node):
        above = node.above
        while isinstance(above, ast.BinOp):
            above = above.above
        if isinstance(above, ast.Compare):
            return
        if isinstance(above, ast.Call) and isinstance(above.func, ast.Name) and above.func.id in ("sorted", "len"):
            return
        self.breach("L24", node.lineno, "a set is kept or walked")

    def check_listcomp(self, node):
        if len(node.generators) != 1 or len(node.generators[0].ifs) > 1:
            self.breach("L7", node.lineno, "more than one for or if")

    def check_compare(self, node):
        sides = [node.left] + node.comparators
        for place, sign in enumerate(node.ops):
            pair = sides[place:place + 2]
            plain = [side for side in pair if isinstance(side, ast.Constant) and side.value in (None, True, False)]
            if isinstance(sign, (ast.Is, ast.IsNot)) and not plain:
                self.breach("L20", node.lineno, "is")

    def check_formattedvalue(self, node):
        if not isinstance(node.value, ast.Name) or node.format_spec or node.conversion not in (-1, ord("r")):
            self.breach("L7", node.lineno, "not a plain {name}")

    def check_binop(self, node):
        if isinstance(node.op, ast.Pow):
            exponent = node.right.value if isinstance(node.right, ast.Constant) else None
            if exponent is None or not 0 <= exponent <= 64:
                self.breach("L27", node.lineno, "no written exponent of 0 to 64")


def check_between(files):
    breaches = []
    methods = {}
    values = {}
    drawn = {}
    for file in files:
        methods.update({name: f"{file.path}:{line}" for name, line in file.methods().items()})
        values.update({name: f"{file.path}:{line}" for name, line in file.values().items()})
        drawn[file.package + "." + os.path.basename(file.path)[:-3]] = file.drawn()
    for name in sorted(set(methods) & set(values)):
        breaches.append(f"{values[name]}: L18: {name} is a method in {methods[name]}")
    for module in sorted(drawn):
        reached, waiting = set(), list(drawn[module])
        while waiting:
            other = waiting.pop()
            if other not in reached:
                reached.add(other)
                waiting.extend(drawn.get(other, ()))
        if module in reached:
            breaches.append(f"{module}: L16: draws from itself in some steps")
    return breaches


def check_folder(package, folder, top, files):
    breaches = []
    names = sorted(name for name in os.listdir(folder) if name != "__pycache__")
    if "__init__.py" not in names:
        breaches.append(f"{folder}: L14: no __init__.py")
    for name in names:
        path = os.path.join(folder, name)
        stem = name[:-3] if name.endswith(".py") else name
        special = name == "__init__.py" or (top and name == "__main__.py")
        if not special and (not re.fullmatch(r"[a-z][a-z0-9_]*", stem) or stem in NO_FILES or hasattr(builtins, stem)):
            breaches.append(f"{path}: L14: such a name isn't used")
        if os.path.isdir(path):
            breaches.extend(check_folder(package, path, False, files))
        elif not name.endswith(".py"):
            breaches.append(f"{path}: L1: not a .py file")
        else:
            files.append(File(package, path, name == "__main__.py"))
            breaches.extend(files[-1].check())
    return breaches


def main(folder):
    files = []
    breaches = check_folder(os.path.basename(os.path.normpath(folder)), folder, True, files)
    breaches.extend(check_between(files))
    for row in breaches:
        print(row)
    return 1 if breaches else 0


if __name__ == "__main__":
    sys.exit(main(sys.argv[1]))
