"""Look through the package for what the language rules forbid, as far as it can be seen file by file.

It is narrower than the rules in places (what the package does not need is refused
altogether), and it does not see all that they say.
"""

import ast
import builtins
import os
import re
import sys

PACKAGE = "endswell"
BUILTINS = set("""len range enumerate zip min max sum abs sorted reversed int str bool bytes list tuple dict set
    isinstance ord repr any all divmod Exception ValueError TypeError KeyError IndexError LookupError
    ZeroDivisionError ArithmeticError OverflowError RuntimeError NotImplementedError NotImplemented""".split())
METHODS = set("""append clear copy count endswith extend find get index insert isalnum isalpha isdigit islower isspace
    isupper items join keys ljust lower lstrip partition pop remove replace reverse rfind rjust rpartition rsplit rstrip
    setdefault split splitlines startswith strip update upper values zfill bit_length add discard""".split())
SPECIAL = {"__init__", "__eq__", "__repr__", "__str__", "__len__", "__enter__", "__exit__"}
STATEMENTS = (
    ast.Assign, ast.AugAssign, ast.If, ast.While, ast.For, ast.Return, ast.Break, ast.Continue, ast.Pass, ast.Raise,
    ast.Assert, ast.Delete, ast.With, ast.Try, ast.Expr, ast.FunctionDef, ast.ClassDef, ast.ImportFrom,
)
REFUSED = (
    ast.Lambda, ast.Yield, ast.YieldFrom, ast.Await, ast.GeneratorExp, ast.JoinedStr, ast.NamedExpr, ast.Div, ast.Pow,
    ast.Mod, ast.MatMult, ast.Global, ast.Nonlocal, ast.AnnAssign,
)
BARRED_NAMES = set("""register mro elements open input law version_info with_traceback add_note attrgetter breakpoint
    builtins compile copyright credits delattr dir eval exec exit gc getattr globals hasattr help id importlib license
    locals methodcaller os quit setattr super type vars sys iter next map""".split())
BARRED_WORDS = set("""typing typing_extensions enum Enum IntEnum StrEnum Flag IntFlag Generic Protocol ABC ABCMeta
    namedtuple NamedTuple TypedDict TYPE_CHECKING abstractmethod""".split())
ITERATED = {"range", "zip", "enumerate", "reversed", "items", "keys", "values"}


class Checker:
    """The complaints about one file."""

    def __init__(self, path, text, own):
        self.path, self.text, self.own, self.found = path, text, own, []
        self.tree = ast.parse(text)

    def tell(self, node, rule, why):
        self.found.append(f"{self.path}:{getattr(node, 'lineno', node)}: {rule} {why}")

    def check(self):
        self.check_text()
        self.check_top()
        for node in ast.walk(self.tree):
            self.check_node(node)
            if isinstance(node, ast.FunctionDef):
                self.check_function(node)
            if isinstance(node, ast.ClassDef):
                self.check_class(node)
        self.check_bindings()
        return self.found

    def check_text(self):
        lines = self.text.split("\n")
        if len(lines) > 400:
            self.tell(400, "L10", "file of 400 lines or more")
        for at, line in enumerate(lines, 1):
            if len(line) > 120:
                self.tell(at, "L10", "line too long")
            if not all(" " <= sign <= "~" for sign in line):
                self.tell(at, "L14", "sign that is not allowed")
            if re.search(r"\b(_wall|_WallAttr)\b|dataclass|overload|contextmanager|#\s*noqa", line):
                self.tell(at, "L12/L17", "barred word")

    def check_top(self):
        for at, node in enumerate(self.tree.body):
            docstring = at == 0 and isinstance(node, ast.Expr) and isinstance(node.value, ast.Constant)
            plain = isinstance(node, ast.Assign) and len(node.targets) == 1 and isinstance(node.targets[0], ast.Name)
            if not docstring and not plain and not isinstance(node, (ast.ImportFrom, ast.FunctionDef, ast.ClassDef)):
                self.tell(node, "L3", "statement at module level")
            if isinstance(node, ast.ImportFrom) and not self.import_stands(node):
                self.tell(node, "L2/L16", "import of what does not stand in that very file")

    def import_stands(self, node):
        names = self.own.get(node.module or "", set())
        return node.level == 0 and all(alias.asname is None and alias.name in names for alias in node.names)

    def check_node(self, node):
        if isinstance(node, ast.operator):
            return  # it has no line of its own, so it is looked at where it stands
        part = node.op if isinstance(node, (ast.BinOp, ast.AugAssign)) else node
        if isinstance(node, ast.stmt) and not isinstance(node, STATEMENTS) or isinstance(part, REFUSED):
            self.tell(node, "L4-L7", f"{type(part).__name__} is not used here")
        if isinstance(node, ast.Constant):
            self.check_constant(node)
        if isinstance(node, ast.Name):
            self.check_name(node, node.id)
        if isinstance(node, ast.Attribute) and node.attr.startswith("__") and node.attr != "__init__":
            self.tell(node, "L8", f"attribute {node.attr}")
        if isinstance(node, ast.Call):
            self.check_call(node)
        if isinstance(node, ast.Compare) and any(isinstance(op, (ast.Is, ast.IsNot)) for op in node.ops):
            if not all(isinstance(side, ast.Constant) for side in node.comparators):
                self.tell(node, "L20", "is without None, True or False")
        if isinstance(node, ast.Assign) and self.keeps_iterator(node.value):
            self.tell(node, "L23", "a view, range or zip is kept")

    def keeps_iterator(self, value):
        called = value.func if isinstance(value, ast.Call) else None
        return getattr(called, "id", getattr(called, "attr", "")) in ITERATED

    def check_constant(self, node):
        if isinstance(node.value, (float, complex, bytes)):
            self.tell(node, "L7", "a value that is not used here")
        if isinstance(node.value, str):
            if "%" in node.value or re.search(r"__\w*__|\._+$", node.value):
                self.tell(node, "L27", "string that is not allowed")
            if set(re.findall(r"\w+", node.value)) & BARRED_WORDS:
                self.tell(node, "L17", "barred word in a string")

    def check_name(self, node, name):
        if name in BARRED_NAMES or name in BARRED_WORDS or name.startswith("__"):
            self.tell(node, "L17", f"name {name}")
        if hasattr(builtins, name) and name not in BUILTINS:
            self.tell(node, "L8", f"builtin {name}")
        if isinstance(node, ast.Name) and isinstance(node.ctx, ast.Store) and hasattr(builtins, name):
            self.tell(node, "L15", f"{name} is a builtin")

    def check_call(self, node):
        if isinstance(node.func, ast.Attribute):
            method = node.func.attr
            if method not in METHODS and method not in self.own["methods"]:
                self.tell(node, "L25", f"method {method}")
        elif not isinstance(node.func, ast.Name):
            self.tell(node, "L7", "call of what is no name")

    def check_function(self, node):
        arguments = node.args
        if node.end_lineno - node.lineno + 1 > 40:
            self.tell(node, "L10", "function too long")
        if node.decorator_list or node.returns or any(each.annotation for each in arguments.args):
            self.tell(node, "L4/L21", "decorator or annotation")
        if arguments.vararg or arguments.kwarg or arguments.kwonlyargs or arguments.posonlyargs:
            self.tell(node, "L4", "stars among the parameters")
        if node.name.startswith("__") and node.name not in SPECIAL:
            self.tell(node, "L5", f"method {node.name}")
        for each in arguments.args:
            self.check_name(node, each.arg)
            if hasattr(builtins, each.arg):
                self.tell(node, "L15", f"{each.arg} is a builtin")
        if hasattr(builtins, node.name) and node.name not in SPECIAL:
            self.tell(node, "L15", f"{node.name} is a builtin")

    def check_class(self, node):
        if node.decorator_list or node.keywords:
            self.tell(node, "L5", "decorator or keyword of a class")
        for at, part in enumerate(node.body):
            docstring = at == 0 and isinstance(part, ast.Expr) and isinstance(part.value, ast.Constant)
            if not docstring and not isinstance(part, ast.FunctionDef):
                self.tell(part, "L5", "a class holds methods alone here")

    def check_bindings(self):
        bound = [alias.name for node in self.tree.body if isinstance(node, ast.ImportFrom) for alias in node.names]
        shadows = set(bound) | {node.name for node in self.tree.body if isinstance(node, ast.ClassDef)}
        for node in self.tree.body:
            if isinstance(node, (ast.FunctionDef, ast.ClassDef)):
                bound.append(node.name)
            if isinstance(node, ast.Assign):
                bound += [target.id for target in node.targets]
        for name in {name for name in bound if bound.count(name) > 1}:
            self.tell(1, "L15", f"{name} is bound twice")
        for node in ast.walk(self.tree):
            stored = isinstance(node, ast.Name) and isinstance(node.ctx, ast.Store) and node.id
            if (stored or isinstance(node, ast.arg) and node.arg) in shadows:
                self.tell(node, "L15", "a variable has the name of a class or an import")
        read = {node.id for node in ast.walk(self.tree) if isinstance(node, ast.Name)}
        for alias in [alias for node in self.tree.body if isinstance(node, ast.ImportFrom) for alias in node.names]:
            if alias.name not in read:
                self.tell(1, "own", f"{alias.name} is imported and not used")


def defined_in(text):
    """The names that a file binds by def, class or a plain assignment."""
    body = ast.parse(text).body
    names = {node.name for node in body if isinstance(node, (ast.FunctionDef, ast.ClassDef))}
    return names | {node.targets[0].id for node in body if isinstance(node, ast.Assign)}


def imported_by(text):
    """The modules from which a file imports."""
    return {node.module for node in ast.parse(text).body if isinstance(node, ast.ImportFrom)}


def goes_round(imports):
    """Whether files import from each other, directly or through other files."""
    left = dict(imports)
    while left:
        free = [name for name, others in left.items() if not others & set(left)]
        if not free:
            return True
        for name in free:
            del left[name]
    return False


def main():
    names = sorted(name for name in os.listdir(PACKAGE) if name != "__pycache__")
    plain = re.compile(r"(__init__|[a-z][a-z0-9_]*)\.py")
    found = [f"{name}: L1/L14 no plain .py file" for name in names if not plain.fullmatch(name)]
    texts = {}
    for name in names:
        with open(os.path.join(PACKAGE, name), encoding="utf-8") as file:
            texts[name] = file.read()
    own = {f"{PACKAGE}.{name[:-3]}": defined_in(text) for name, text in texts.items()}
    own["methods"] = {part.name for text in texts.values() for node in ast.parse(text).body
                      if isinstance(node, ast.ClassDef) for part in node.body if isinstance(part, ast.FunctionDef)}
    imports = {f"{PACKAGE}.{name[:-3]}": imported_by(text) for name, text in texts.items()}
    if goes_round(imports):
        found.append("L16 files import from each other")
    for name, text in texts.items():
        found += Checker(f"{PACKAGE}/{name}", text, own).check()
    print("\n".join(found) or f"{len(names)} files keep the rules that are looked at")
    return 1 if found else 0


if __name__ == "__main__":
    sys.exit(main())
