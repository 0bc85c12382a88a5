"""Checks that a package keeps to the part of Python told by LANGUAGE.md, L1 to L28.

The check is narrower than the rules where that makes it shorter: what passes here keeps
to them, but not all that keeps to them passes. Left out for now are lambdas, functions
within functions, sets, f-strings, errors, bases of classes, annotations, defaults,
keywords, lists and dicts at a file's top, and __main__.py.

It can't see what a name stands for when the program runs: two names of one list (L23),
or how deep a recursion goes (L11).
"""

import ast
import builtins
import os
import re

PYTHON_NAMES = set(dir(builtins))
# L8 without what is left out here, and without chr (L27) and print (no __main__.py).
FREE_BUILTINS = set("""len range enumerate zip min max sum abs sorted reversed int str bool list tuple dict
    ord repr any all divmod""".split())
PYTHON_METHODS = set("""append clear copy count endswith extend find get index insert isalnum isalpha isdigit
    islower isspace isupper items join keys ljust lower lstrip partition pop remove replace reverse rfind rjust
    rpartition rsplit rstrip setdefault split splitlines startswith strip update upper values zfill
    bit_length""".split())
CHANGING_METHODS = set("append clear extend insert pop remove reverse setdefault update".split())
TAKEN_ATTRIBUTES = {name for kind in (str, int, list, tuple, dict, set, frozenset, bytes, bytearray, float, bool)
                    for name in dir(kind)} | {"args"}
WALKED = set("zip enumerate reversed range".split())
WALKED_METHODS = set("items keys values".split())
WALKERS = set("list tuple dict sorted sum any all enumerate zip".split())

# L17; the frames' names are told by their beginnings.
NEVER_NAMES = set("""register mro elements open input version_info with_traceback add_note attrgetter breakpoint
    builtins compile copyright credits delattr dir eval exec exit gc getattr globals hasattr help id importlib
    license locals methodcaller os quit setattr super type vars sys format format_map""".split())
FRAME_NAME = re.compile(r"(f|tb|co|gi|cr|ag)_[a-z]+$")
NEVER_WORDS = set("""type typing typing_extensions enum Enum IntEnum StrEnum Flag IntFlag Generic Protocol ABC
    ABCMeta namedtuple NamedTuple TypedDict TYPE_CHECKING abstractmethod""".split())
NEVER_WORD = re.compile(r"(?<![A-Za-z0-9])(" + "|".join(sorted(NEVER_WORDS)) + r")(?![A-Za-z0-9])"
                        "|dataclass|overload|contextmanager")
NEVER_FILES = set("test tests testing site conftest sitecustomize usercustomize".split()) | NEVER_WORDS

STATEMENTS = (ast.Assign, ast.AugAssign, ast.If, ast.While, ast.For, ast.Return, ast.Break, ast.Continue, ast.Pass,
              ast.Expr)
AT_TOP = (ast.ImportFrom, ast.FunctionDef, ast.ClassDef, ast.Assign, ast.Expr)
EXPRESSIONS = (ast.Constant, ast.List, ast.Tuple, ast.Dict, ast.BinOp, ast.UnaryOp, ast.BoolOp, ast.Compare, ast.IfExp,
               ast.Call, ast.Attribute, ast.Subscript, ast.Slice, ast.ListComp, ast.Name)


class Package:
    """The package's files, as {path below its folder: text}, and what is found in them."""

    def __init__(self, name, files):
        self.name = name
        self.files = files
        self.found = []
        self.trees = {}
        for path, text in files.items():
            try:
                self.trees[path] = ast.parse(text)
            except SyntaxError as error:
                self.tell("L1", path, error.lineno, "does not parse")
        self.methods, self.values = {}, {}
        for path, tree in self.trees.items():
            self.gather_attributes(path, tree)

    def tell(self, rule, path, line, words):
        self.found.append(f"{rule} {path}:{line} {words}")

    def gather_attributes(self, path, tree):
        for node in ast.walk(tree):
            if isinstance(node, ast.ClassDef):
                for inner in node.body:
                    if isinstance(inner, ast.FunctionDef):
                        self.methods[inner.name] = (path, inner.lineno)
            if isinstance(node, ast.Attribute) and isinstance(node.ctx, ast.Store):
                self.values[node.attr] = (path, node.lineno)

    def check(self):
        for path, text in self.files.items():
            check_text(self, path, text)
        for path, tree in self.trees.items():
            File(self, path, tree).check()
        check_file_names(self)
        check_attribute_names(self)
        check_imports(self)
        return self.found


def module_path(package, module):
    """Where the module of that full name lies, or None."""
    if module == package.name or not module.startswith(package.name + "."):
        return None
    path = module[len(package.name) + 1:].replace(".", "/") + ".py"
    return path if path in package.files else None


def check_file_names(package):
    folders = {os.path.dirname(path) for path in package.files} | {""}
    for folder in folders:
        if os.path.join(folder, "__init__.py") not in package.files:
            package.tell("L14", folder or ".", 0, "no __init__.py")
    for path in package.files:
        if not path.endswith(".py"):
            package.tell("L1", path, 0, "no .py file")
        for part in path.split("/"):
            stem = part.removesuffix(".py")
            if not re.fullmatch(r"__init__|[a-z][a-z0-9_]*", stem):
                package.tell("L14", path, 0, "no plain lower-case name")
            if stem in NEVER_FILES | PYTHON_NAMES or stem.startswith("test_"):
                package.tell("L14", path, 0, "a name that no file may have")


def check_text(package, path, text):
    lines = text.split("\n")
    if len(lines) > 401 or len(lines) == 401 and lines[-1]:
        package.tell("L10", path, len(lines), "over 400 lines")
    for number, line in enumerate(lines, start=1):
        if len(line) > 120:
            package.tell("L10", path, number, "over 120 characters")
        if not re.fullmatch(r"[ -~]*", line):
            package.tell("L14", path, number, "a sign outside blank to ~")
        if "\\" in line:
            package.tell("L27", path, number, "a backslash")
        if NEVER_WORD.search(line):
            package.tell("L17", path, number, "a word that stands nowhere")


def check_attribute_names(package):
    for name in package.methods.keys() & package.values.keys():
        package.tell("L18", *package.methods[name], f"{name} is a method and a value")
    for names in (package.methods, package.values):
        for name, where in names.items():
            if name != "__init__" and name in TAKEN_ATTRIBUTES:
                package.tell("L26", *where, f"{name} is a name of Python's own values")


def check_imports(package):
    drawn = {}
    for path, tree in package.trees.items():
        drawn[path] = set()
        for node in ast.walk(tree):
            if isinstance(node, ast.ImportFrom):
                source = module_path(package, node.module or "")
                if source:
                    drawn[path].add(source)
                    folder = os.path.dirname(source)
                    drawn[path].add(os.path.join(folder, "__init__.py"))
                    drawn[path].add("__init__.py")
    for path in drawn:
        reached, left = set(), list(drawn[path])
        while left:
            other = left.pop()
            if other not in reached:
                reached.add(other)
                left.extend(drawn.get(other, ()))
        if path in reached:
            package.tell("L16", path, 0, "draws from itself in some steps")


def top_names(tree):
    """The names that a file defines itself at its top, each as often as it's bound."""
    names = []
    for node in tree.body:
        if isinstance(node, (ast.FunctionDef, ast.ClassDef)):
            names.append(node.name)
        if isinstance(node, ast.Assign):
            names.extend(target.id for target in node.targets if isinstance(target, ast.Name))
    return names


def is_docstring(node):
    return isinstance(node, ast.Expr) and isinstance(node.value, ast.Constant) and isinstance(node.value.value, str)


class File:
    def __init__(self, package, path, tree):
        self.package, self.path, self.tree = package, path, tree
        self.parents = {child: node for node in ast.walk(tree) for child in ast.iter_child_nodes(node)}
        self.imported = [alias.name for node in ast.walk(tree) if isinstance(node, ast.ImportFrom)
                         for alias in node.names]
        self.top = top_names(tree)
        self.functions = [node.name for node in tree.body if isinstance(node, ast.FunctionDef)]
        self.classes = {node.name for node in tree.body if isinstance(node, ast.ClassDef)}
        for node in ast.walk(tree):
            if isinstance(node, ast.ImportFrom):
                source = package.trees.get(module_path(package, node.module or ""), ast.Module([], []))
                defined = {inner.name for inner in source.body if isinstance(inner, ast.ClassDef)}
                self.classes |= defined & {alias.name for alias in node.names}

    def tell(self, rule, node, words):
        self.package.tell(rule, self.path, getattr(node, "lineno", 0), words)

    def check(self):
        self.check_top()
        for node in ast.walk(self.tree):
            if isinstance(node, ast.stmt):
                self.check_statement(node)
            if isinstance(node, ast.expr):
                self.check_expression(node)
            self.check_spelling(node)
        for node in self.tree.body:
            if isinstance(node, ast.FunctionDef):
                self.check_scope(node)
            if isinstance(node, ast.ClassDef):
                self.check_class(node)

    def check_top(self):
        if self.path.endswith("__init__.py") and not all(is_docstring(node) for node in self.tree.body):
            self.tell("L16", self.tree, "__init__.py holds a docstring alone here")
        begun = False
        for k, node in enumerate(self.tree.body):
            if not isinstance(node, AT_TOP) or isinstance(node, ast.Expr) and (k > 0 or not is_docstring(node)):
                self.tell("L3", node, "does not stand at a file's top")
            if isinstance(node, ast.ImportFrom) and begun:
                self.tell("L2", node, "an import behind other rows")
            begun = begun or not (isinstance(node, ast.ImportFrom) or is_docstring(node))
            if isinstance(node, ast.Assign) and not self.is_plain(node.value, node.lineno):
                self.tell("L3", node, "no plain value (or a list or dict, left out here)")
        bound = self.top + self.imported
        for name in sorted(set(bound)):
            if bound.count(name) > 1:
                self.tell("L15", self.tree, f"{name} is bound more than once")
            if name in PYTHON_NAMES:
                self.tell("L8", self.tree, f"{name} is a name of Python's own")

    def is_plain(self, node, line):
        if isinstance(node, ast.Tuple):
            return all(self.is_plain(inner, line) for inner in node.elts)
        if isinstance(node, ast.UnaryOp) and isinstance(node.op, ast.USub):
            return isinstance(node.operand, ast.Constant)
        if isinstance(node, ast.Name):
            return any(inner.name == node.id and inner.lineno < line for inner in self.tree.body
                       if isinstance(inner, ast.FunctionDef))
        return isinstance(node, ast.Constant)

    def check_statement(self, node):
        parent = self.parents[node]
        if isinstance(node, (ast.Import, ast.ImportFrom)):
            self.check_import(node, parent)
        elif isinstance(node, ast.FunctionDef):
            self.check_function(node, parent)
        elif isinstance(node, ast.ClassDef):
            if not isinstance(parent, ast.Module):
                self.tell("L15", node, "a class that does not stand at a file's top")
        elif not isinstance(node, STATEMENTS):
            self.tell("L6", node, "a statement that is not used")
        if isinstance(node, ast.Assign) and (len(node.targets) > 1 or isinstance(node.targets[0], (ast.Tuple, ast.List))):
            self.tell("L6", node, "more than one target")
        if isinstance(node, (ast.For, ast.While)) and node.orelse:
            self.tell("L6", node, "else behind a loop")
        if isinstance(node, ast.Expr) and not isinstance(node.value, ast.Call):
            if not (is_docstring(node) and parent.body[0] is node
                    and isinstance(parent, (ast.Module, ast.FunctionDef, ast.ClassDef))):
                self.tell("L6", node, "a value by itself")
        if isinstance(node, ast.For):
            self.check_walk(node)

    def check_import(self, node, parent):
        if not isinstance(parent, ast.Module):
            self.tell("L2", node, "an import that does not stand at a file's top")
        if isinstance(node, ast.Import):
            return self.tell("L16", node, "import without from")
        source = module_path(self.package, node.module or "")
        if node.level or source is None:
            return self.tell("L2", node, "no module of the package by its full name")
        defined = top_names(self.package.trees.get(source, ast.Module([], [])))
        for alias in node.names:
            if alias.name == "*":
                self.tell("L2", node, "import *")
            if alias.asname or alias.name not in defined:
                self.tell("L16", node, f"{alias.name} is not defined there, or is renamed")

    def check_function(self, node, parent):
        if not isinstance(parent, (ast.Module, ast.ClassDef)):
            self.tell("L4", node, "a function within a function (left out here)")
        if node.end_lineno - node.lineno >= 40:
            self.tell("L10", node, "over 40 lines")
        given = node.args
        if given.vararg or given.kwarg or given.kwonlyargs or given.posonlyargs or given.defaults or node.decorator_list:
            self.tell("L4", node, "more than plain parameters")
        if node.returns or any(arg.annotation for arg in given.args):
            self.tell("L21", node, "an annotation")

    def check_class(self, node):
        if node.bases or node.keywords or node.decorator_list:
            self.tell("L5", node, "more than a plain class (bases are left out here)")
        names = []
        for k, inner in enumerate(node.body):
            if isinstance(inner, ast.FunctionDef):
                names.append(inner.name)
                self.check_scope(inner)
                self.check_method(inner)
            elif k > 0 or not is_docstring(inner):
                self.tell("L5", inner, "more than methods in a class")
        if len(set(names)) < len(names):
            self.tell("L18", node, "a method stands twice")

    def check_method(self, node):
        if node.name.startswith("__") and node.name != "__init__":
            self.tell("L28", node, "only __init__ is written here")
        if node.name == "__init__" and any(isinstance(inner, ast.Return) for inner in ast.walk(node)):
            self.tell("L28", node, "__init__ gives back something")

    def check_scope(self, function):
        """Each name that is read is known, and no local takes another's name."""
        bound = {arg.arg for arg in function.args.args}
        bound |= {node.id for node in ast.walk(function) if isinstance(node, ast.Name) and isinstance(node.ctx, ast.Store)}
        for name in sorted(bound & (set(self.top) | set(self.imported) | PYTHON_NAMES)):
            self.tell("L15", function, f"{name} is a name of the file or of Python's own")
        known = bound | set(self.top) | set(self.imported) | FREE_BUILTINS
        for node in ast.walk(function):
            if isinstance(node, ast.Name) and node.id not in known:
                self.tell("L8", node, f"{node.id} is not known")
            if isinstance(node, ast.Attribute) and isinstance(node.ctx, ast.Store):
                if not isinstance(node.value, ast.Name) or node.value.id not in bound:
                    self.tell("L18", node, "a value given to what is no local name")
            if isinstance(node, (ast.Subscript, ast.Attribute)) and isinstance(node.ctx, ast.Store):
                if isinstance(node.value, ast.Name) and node.value.id not in bound:
                    self.tell("L15", node, "a change to a name of the file's top")

    def check_expression(self, node):
        if not isinstance(node, EXPRESSIONS):
            self.tell("L7", node, f"{node.__class__.__name__} is not used")
        if isinstance(node, ast.Constant):
            if not (node.value is None or node.value.__class__ in (int, str, bool)):
                self.tell("L7", node, "neither a whole number nor a text nor True, False, None")
            if isinstance(node.value, str) and "%" in node.value:
                self.tell("L27", node, "the sign of the remainder within a text")
        if isinstance(node, ast.ListComp) and (len(node.generators) > 1 or len(node.generators[0].ifs) > 1):
            self.tell("L7", node, "more than one for, or more than one if")
        if isinstance(node, ast.Call):
            self.check_call(node)
        if isinstance(node, ast.Attribute):
            self.check_attribute(node)
        if isinstance(node, ast.Name):
            self.check_name(node)
        if isinstance(node, ast.BinOp):
            self.check_operator(node, node.op, node.right)
        if isinstance(node, ast.Compare):
            for op, right in zip(node.ops, node.comparators):
                if isinstance(op, (ast.Is, ast.IsNot)) and not (
                        isinstance(right, ast.Constant) and (right.value is None or isinstance(right.value, bool))):
                    self.tell("L20", node, "is beside something else than None, True, False")

    def check_operator(self, node, op, right):
        if isinstance(op, (ast.Div, ast.MatMult)):
            self.tell("L7", node, "an operator that is not used")
        if isinstance(op, ast.Pow) and not (isinstance(right, ast.Constant) and right.value in range(65)):
            self.tell("L27", node, "an exponent that is not written out")

    def is_called(self, node):
        parent = self.parents[node]
        return isinstance(parent, ast.Call) and parent.func is node

    def check_name(self, node):
        if isinstance(node.ctx, ast.Load) and not self.is_called(node):
            if node.id in FREE_BUILTINS:
                self.tell("L22", node, f"{node.id} is kept as a value")
            if node.id in self.classes:
                self.tell("L18", node, f"the class {node.id} is not called")

    def check_attribute(self, node):
        if self.is_called(node):
            if node.attr not in PYTHON_METHODS and node.attr not in self.package.methods:
                self.tell("L25", node, f"the method {node.attr}")
        elif node.attr not in self.package.values:
            self.tell("L26", node, f"{node.attr} is no value of the package's objects")

    def check_call(self, node):
        if node.keywords:
            self.tell("L22", node, "a keyword (left out here)")
        lazy = isinstance(node.func, ast.Name) and node.func.id in WALKED
        lazy = lazy or isinstance(node.func, ast.Attribute) and node.func.attr in WALKED_METHODS
        if lazy and not self.is_walked(node):
            self.tell("L23", node, "not walked on the spot")

    def is_walked(self, node):
        parent = self.parents[node]
        if isinstance(parent, (ast.For, ast.comprehension)):
            return parent.iter is node
        if not (isinstance(parent, ast.Call) and isinstance(parent.func, ast.Name) and parent.args[:1] == [node]):
            return False
        return parent.func.id in WALKERS or parent.func.id in ("min", "max") and len(parent.args) == 1

    def check_walk(self, loop):
        walked, left = set(), [loop.iter]
        while left:
            node = left.pop()
            if isinstance(node, ast.Call) and isinstance(node.func, ast.Name) and node.func.id in WALKED - {"range"}:
                left.extend(node.args)
            elif isinstance(node, ast.Call) and isinstance(node.func, ast.Attribute):
                left.append(node.func.value)
            else:
                walked.add(ast.unparse(node))
        for node in (inner for row in loop.body for inner in ast.walk(row)):
            changed = None
            if isinstance(node, ast.Subscript) and isinstance(node.ctx, ast.Store):
                changed = node.value
            if isinstance(node, ast.Call) and isinstance(node.func, ast.Attribute) and node.func.attr in CHANGING_METHODS:
                changed = node.func.value
            if isinstance(node, ast.AugAssign):
                changed = changed or node.target
            if changed is not None and ast.unparse(changed) in walked:
                self.tell("L23", node, "what the loop walks is changed in it")

    def check_spelling(self, node):
        names = [getattr(node, field) for field in ("id", "attr", "arg", "name") if getattr(node, field, None)]
        if isinstance(node, ast.AugAssign):
            self.check_operator(node, node.op, node.value)
        for name in names:
            if name != "__init__" and not re.fullmatch(r"[A-Za-z][A-Za-z0-9_]*", name):
                self.tell("L12", node, f"{name} is no plain name")
            if name in NEVER_NAMES or FRAME_NAME.match(name):
                self.tell("L17", node, f"{name} is not used")


def files_below(folder):
    """All that lies in the package's folder, but what Python itself keeps there."""
    files = {}
    for place, folders, names in os.walk(folder):
        folders[:] = [name for name in folders if name != "__pycache__"]
        for name in names:
            path = os.path.join(place, name)
            with open(path, encoding="utf-8", newline="") as file:
                files[os.path.relpath(path, folder)] = file.read()
    return files


def findings(name, files):
    return Package(name, files).check()
