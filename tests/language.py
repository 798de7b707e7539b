"""Looks at the package's files by the rules of ../shared/LANGUAGE.md.

It lets by less than the rules do: only what the package uses. What stands outside of that (stored sets,
generators, nested functions, decorators, annotations, f-strings, handlers of Python's own errors ..) is a
fault here until a look for its own rules is written.
"""

import ast
import builtins
import io
import re
import tokenize

PACKAGE = "threelays"

NODES = (
    ast.Module, ast.FunctionDef, ast.ClassDef, ast.arguments, ast.arg, ast.Return, ast.Assign, ast.AugAssign, ast.For,
    ast.While, ast.If, ast.Expr, ast.Pass, ast.Break, ast.Continue, ast.Raise, ast.BoolOp, ast.boolop, ast.BinOp,
    ast.Add, ast.Sub, ast.Mult, ast.FloorDiv, ast.Mod, ast.UnaryOp, ast.USub, ast.Not, ast.IfExp, ast.Compare,
    ast.cmpop, ast.Call, ast.keyword, ast.Constant, ast.Attribute, ast.Subscript, ast.Slice, ast.Name,
    ast.expr_context, ast.List, ast.Tuple, ast.ListComp, ast.GeneratorExp, ast.comprehension, ast.ImportFrom, ast.alias,
    ast.Dict, ast.SetComp, ast.Try, ast.ExceptHandler)

BUILTINS = (
    "len", "range", "enumerate", "zip", "min", "max", "sum", "abs", "sorted", "reversed", "int", "str", "bool", "list",
    "tuple", "dict", "isinstance", "ord", "repr", "any", "all", "divmod", "ValueError")
ITERATED = ("zip", "enumerate", "reversed", "range")
VIEWS = ("keys", "values", "items")
TAKERS = ("list", "tuple", "dict", "sorted", "sum", "any", "all", "min", "max")
METHODS = ("append", "pop", "extend", "insert", "index", "count", "join", "split", "startswith", "endswith") + VIEWS
ERROR_BASES = ("ValueError",)

BARRED_NAMES = (
    "register", "mro", "elements", "open", "input", "version_info", "with_traceback", "add_note", "attrgetter",
    "breakpoint", "builtins", "compile", "copyright", "credits", "delattr", "dir", "eval", "exec", "exit", "gc",
    "getattr", "globals", "hasattr", "help", "id", "importlib", "license", "locals", "methodcaller", "os", "quit",
    "setattr", "super", "type", "vars", "sys", "format", "format_map", "args")
BARRED_WORDS = re.compile(
    r"\b(type|typing|typing_extensions|enum|Enum|IntEnum|StrEnum|Flag|IntFlag|Generic|Protocol|ABC|ABCMeta|namedtuple"
    r"|NamedTuple|TypedDict|TYPE_CHECKING|abstractmethod)\b|dataclass|overload|contextmanager")
BARRED_FILES = re.compile(r"(law_.*|tests?|testing|test_.*|site|conftest|sitecustomize|usercustomize)$")
PLAIN = re.compile(r"[A-Za-z][A-Za-z0-9_]*$")


class Look:
    """One look at all files: a dict of file names to their texts."""

    def __init__(self, files):
        self.files = files
        self.found = []
        self.trees = {}
        self.imports = {}
        for name, text in files.items():
            self.trees[name] = ast.parse(text)
            self.imports[name] = []
        for name in files:
            self.look_at_name(name)
            self.look_at_text(name)
            self.look_at_module(name)
            for node in ast.walk(self.trees[name]):
                self.look_at_node(name, node)
            self.look_at_classes_as_values(name)
            self.look_at_tables(name)
            self.look_at_sets(name)
            self.look_at_iterated(name)
        self.look_at_rounds()
        self.look_at_attributes()

    def fault(self, rule, name, line, why):
        self.found.append(f"{rule} {name}:{line} {why}")

    def look_at_name(self, name):
        stem = name[:-3]
        if not name.endswith(".py") or (stem != "__init__" and not re.match(r"[a-z][a-z0-9_]*$", stem)):
            self.fault("L1", name, 0, "a plain lower-case name of a .py file is wanted")
        if BARRED_FILES.match(stem) or stem in dir(builtins) or stem in BARRED_NAMES or BARRED_WORDS.fullmatch(stem):
            self.fault("L14", name, 0, "barred name of a file")

    def look_at_text(self, name):
        lines = self.files[name].split("\n")
        if len(lines) > 401:
            self.fault("L10", name, 401, "over 400 lines")
        for at, line in enumerate(lines, 1):
            if len(line) > 120 or "\t" in line:
                self.fault("L10", name, at, "a line of over 120 signs, or a tab")
            if re.search(r"[^ -~]", line):
                self.fault("L14", name, at, "a sign that is not from the space to ~")
            if BARRED_WORDS.search(line):
                self.fault("L17", name, at, "a barred word")
        for token in tokenize.generate_tokens(io.StringIO(self.files[name]).readline):
            if token.type == tokenize.STRING:
                self.look_at_string(name, token)

    def look_at_string(self, name, token):
        if "%" in token.string or re.search(r"\\[^nt\\'\"]", token.string):
            self.fault("L27", name, token.start[0], "a barred sign or escape in a string")
        if not re.match(r"[\"']", token.string) or re.search(r"\.__?[\"']+$", token.string):
            self.fault("L27", name, token.start[0], "a string with a prefix or a barred end")

    def look_at_module(self, name):
        bound = []
        for at, node in enumerate(self.trees[name].body):
            if isinstance(node, ast.ImportFrom):
                self.look_at_import(name, node, at)
                bound += [alias.name for alias in node.names]
            elif isinstance(node, (ast.FunctionDef, ast.ClassDef)):
                bound.append(node.name)
            elif isinstance(node, ast.Assign):
                self.look_at_plain_value(name, node)
                bound += [target.id for target in node.targets if isinstance(target, ast.Name)]
            elif isinstance(node, ast.Import):
                self.fault("L2", name, node.lineno, "an import of a whole module")
            elif not (at == 0 and isinstance(node, ast.Expr) and isinstance(node.value, ast.Constant)):
                self.fault("L3", name, node.lineno, "barred at module level")
        if len(set(bound)) != len(bound):
            self.fault("L15", name, 1, "a name is bound twice at module level")
        if name == "__init__.py" and bound:
            self.fault("L16", name, 1, "__init__.py binds a name")

    def look_at_plain_value(self, name, node):
        plain = (ast.Constant, ast.Tuple, ast.UnaryOp, ast.USub, ast.expr_context)
        above = [other.name for other in self.trees[name].body
                 if isinstance(other, ast.FunctionDef) and other.lineno < node.lineno]
        parts = [node.value]
        if isinstance(node.value, ast.Dict):
            values = [value for value in node.value.values if not (isinstance(value, ast.Name) and value.id in above)]
            parts = node.value.keys + values
        # A part is None where a dict is put into another one by its stars.
        whole = [part for part in parts if part is not None for part in ast.walk(part)]
        if len(node.targets) != 1 or None in parts or not all(isinstance(part, plain) for part in whole):
            self.fault("L3", name, node.lineno, "no plain value, once")

    def tables(self, name):
        """The dicts at the module level of a file, with their nodes."""
        return {node.targets[0].id: node.value for node in self.trees[name].body
                if isinstance(node, ast.Assign) and isinstance(node.value, ast.Dict)
                and isinstance(node.targets[0], ast.Name)}

    def look_at_tables(self, name):
        """A dict at module level is only read, by an index or behind in."""
        right = []
        for node in ast.walk(self.trees[name]):
            if isinstance(node, ast.Subscript) and isinstance(node.ctx, ast.Load):
                right.append(node.value)
            elif isinstance(node, ast.Compare):
                right += [part for sign, part in zip(node.ops, node.comparators)
                          if isinstance(sign, (ast.In, ast.NotIn))]
            elif isinstance(node, ast.Assign) and node in self.trees[name].body:
                right += node.targets
        told = self.tables(name)
        for node in ast.walk(self.trees[name]):
            if isinstance(node, ast.Name) and node.id in told and node not in right:
                self.fault("L15", name, node.lineno, f"{node.id} is handed on or modified")

    def look_at_import(self, name, node, at):
        ahead = self.trees[name].body[:at]
        if any(not isinstance(other, (ast.ImportFrom, ast.Expr)) for other in ahead):
            self.fault("L2", name, node.lineno, "an import below other rows")
        home = (node.module or "")[len(PACKAGE) + 1:] + ".py"
        if node.level or not (node.module or "").startswith(PACKAGE + ".") or home not in self.files:
            self.fault("L2", name, node.lineno, "an import that is none from a module of the package by its full name")
            return
        self.imports[name].append(home)
        defined = [other.name for other in self.trees[home].body if isinstance(other, (ast.FunctionDef, ast.ClassDef))]
        for alias in node.names:
            if alias.name == "*":
                self.fault("L2", name, node.lineno, "an import of all names")
            elif alias.asname or alias.name not in defined:
                self.fault("L16", name, node.lineno, "an imported name that its file does not define")

    def look_at_rounds(self):
        for name in self.files:
            seen, ways = [], list(self.imports[name])
            while ways:
                other = ways.pop()
                if other not in seen:
                    seen.append(other)
                    ways += self.imports[other]
            if name in seen:
                self.fault("L16", name, 1, "files import from each other")

    def look_at_node(self, name, node):
        line = getattr(node, "lineno", 1)
        if not isinstance(node, NODES):
            self.fault("L6", name, line, f"{node.__class__.__name__} is not in use here")
        looks = {
            ast.FunctionDef: self.look_at_function, ast.ClassDef: self.look_at_class, ast.Call: self.look_at_call,
            ast.Compare: self.look_at_compare, ast.Constant: self.look_at_constant, ast.Raise: self.look_at_raise,
            ast.Name: self.look_at_plain_name, ast.Attribute: self.look_at_attribute, ast.For: self.look_at_loop,
            ast.Dict: self.look_at_dict, ast.Try: self.look_at_try}
        if node.__class__ in looks:
            looks[node.__class__](name, node)

    def look_at_function(self, name, node):
        given = node.args
        if node.decorator_list or given.posonlyargs or given.kwonlyargs or given.vararg or given.kwarg:
            self.fault("L4", name, node.lineno, "a decorator, or other parameters than plain ones")
        if given.defaults or node.returns or any(arg.annotation for arg in given.args):
            self.fault("L21", name, node.lineno, "a default value or an annotation is not in use here")
        if node.end_lineno - node.lineno + 1 > 40:
            self.fault("L10", name, node.lineno, "a function of over 40 lines")
        if node.name.startswith("_") and node.name != "__init__":
            self.fault("L5", name, node.lineno, "a double-underscore method that is not in use here")
        if any(isinstance(part, (ast.FunctionDef, ast.ClassDef)) and part != node for part in ast.walk(node)):
            self.fault("L4", name, node.lineno, "nothing is nested in a function here")
        if node.name == "__init__" and any(isinstance(part, ast.Return) for part in ast.walk(node)):
            self.fault("L28", name, node.lineno, "__init__ returns nothing")
        self.look_at_bindings(name, node)

    def look_at_bindings(self, name, node):
        """No parameter and no local name has the name of a class or an import of its file, or of a builtin."""
        barred = list(dir(builtins)) + list(BARRED_NAMES)
        for other in self.trees[name].body:
            if isinstance(other, ast.ImportFrom):
                barred += [alias.name for alias in other.names]
            elif isinstance(other, ast.ClassDef):
                barred.append(other.name)
        names = [arg.arg for arg in node.args.args] + [node.name][:node.name != "__init__"]
        names += [part.id for part in ast.walk(node) if isinstance(part, ast.Name) and isinstance(part.ctx, ast.Store)]
        for one in names:
            if one in barred:
                self.fault("L15", name, node.lineno, f"{one} has another meaning")
            if not PLAIN.match(one):
                self.fault("L12", name, node.lineno, f"{one} is no plain name")

    def look_at_class(self, name, node):
        bases = [base.id for base in node.bases if isinstance(base, ast.Name)]
        above = [other.name for other in self.trees[name].body
                 if isinstance(other, ast.ClassDef) and other.lineno < node.lineno]
        if node not in self.trees[name].body or node.decorator_list or node.keywords or len(bases) != len(node.bases):
            self.fault("L5", name, node.lineno, "a class below module level, or with a decorator or an odd base")
        if len(bases) > 1 or any(base not in above and base not in ERROR_BASES for base in bases):
            self.fault("L5", name, node.lineno, "a base that is no class above")
        methods = [part.name for part in node.body if isinstance(part, ast.FunctionDef)]
        if len(set(methods)) != len(methods) or not PLAIN.match(node.name):
            self.fault("L18", name, node.lineno, "a method defined twice, or a name that is not plain")
        for part in node.body:
            if not isinstance(part, ast.FunctionDef) and not (
                    isinstance(part, ast.Expr) and isinstance(part.value, ast.Constant)):
                self.fault("L5", name, part.lineno, "a class has methods alone here")

    def known(self, name):
        """The functions and classes that a file defines or imports, with their nodes."""
        told = {}
        for node in self.trees[name].body:
            if isinstance(node, (ast.FunctionDef, ast.ClassDef)):
                told[node.name] = node
            elif isinstance(node, ast.ImportFrom) and node.module:
                home = self.trees.get(node.module[len(PACKAGE) + 1:] + ".py")
                for other in home.body if home else []:
                    if isinstance(other, (ast.FunctionDef, ast.ClassDef)):
                        if other.name in [alias.name for alias in node.names]:
                            told[other.name] = other
        return told

    def own_methods(self):
        """The methods of all classes, their nodes by their names."""
        told = {}
        for tree in self.trees.values():
            for node in ast.walk(tree):
                if isinstance(node, ast.ClassDef):
                    for part in node.body:
                        if isinstance(part, ast.FunctionDef):
                            told.setdefault(part.name, []).append(part)
        return told

    def from_tables(self, name):
        """The functions of the tables of a file by the local names that are assigned one of them."""
        told = {}
        for node in ast.walk(self.trees[name]):
            if isinstance(node, ast.Assign) and isinstance(node.value, ast.Subscript):
                table = self.tables(name).get(getattr(node.value.value, "id", None))
                if table and isinstance(node.targets[0], ast.Name):
                    words = [value.id for value in table.values if isinstance(value, ast.Name)]
                    told[node.targets[0].id] = [self.known(name)[word] for word in words if word in self.known(name)]
        return told

    def takes(self, name, node, own, hidden):
        """A call passes what a function takes, its first parameters, so many as are hidden, not counted."""
        wanted = [arg.arg for arg in own.args.args][hidden:]
        given = wanted[:len(node.args)] + [word.arg for word in node.keywords]
        if len(node.args) > len(wanted) or sorted(given) != sorted(wanted):
            self.fault("L22", name, node.lineno, f"{own.name} is passed what it does not take")

    def look_at_call(self, name, node):
        if isinstance(node.func, ast.Attribute):
            for own in self.own_methods().get(node.func.attr, []):
                self.takes(name, node, own, 1)
            if node.func.attr not in self.own_methods() and (node.func.attr not in METHODS or node.keywords):
                self.fault("L25", name, node.lineno, "a method that is not in use here")
            return
        if not isinstance(node.func, ast.Name):
            self.fault("L7", name, node.lineno, "a call of what is no name")
            return
        own = self.known(name).get(node.func.id)
        if isinstance(own, ast.FunctionDef):
            self.takes(name, node, own, 0)
        elif isinstance(own, ast.ClassDef):
            made = [part for part in own.body if isinstance(part, ast.FunctionDef) and part.name == "__init__"]
            for part in made:
                self.takes(name, node, part, 1)
            if not made and (node.args or node.keywords):
                self.fault("L22", name, node.lineno, "a class without an __init__ is passed something")
        elif node.func.id in self.from_tables(name):
            for told in self.from_tables(name)[node.func.id]:
                self.takes(name, node, told, 0)
        elif node.func.id not in BUILTINS:
            self.fault("L8", name, node.lineno, f"{node.func.id} is not called here")
        elif node.keywords:
            self.fault("L22", name, node.lineno, "a keyword of a builtin is not in use here")

    def look_at_try(self, name, node):
        """Own errors alone are caught, by their names; nothing else stands below."""
        for handler in node.handlers:
            own = self.known(name).get(getattr(handler.type, "id", None))
            if not isinstance(own, ast.ClassDef) or handler.name:
                self.fault("L19", name, handler.lineno, "a handler that names no class of an own error")
        if node.orelse or node.finalbody:
            self.fault("L6", name, node.lineno, "else and finally of a try are not in use here")

    def look_at_loop(self, name, node):
        """What is iterated is not modified: no item of it is assigned, no method that modifies is called off it."""
        iterated = [part.id for part in ast.walk(node.iter) if isinstance(part, ast.Name)]
        for part in ast.walk(node):
            calls = isinstance(part, ast.Attribute) and part.attr in ("append", "pop", "extend", "insert")
            assigns = isinstance(part, ast.Subscript) and isinstance(part.ctx, ast.Store)
            if (calls or assigns) and isinstance(part.value, ast.Name) and part.value.id in iterated:
                self.fault("L23", name, part.lineno, "what a loop iterates over is modified")

    def look_at_dict(self, name, node):
        if node.keys and node not in self.tables(name).values():
            self.fault("L24", name, node.lineno, "only a dict that is empty at first is in use here")

    def look_at_sets(self, name):
        """A set stands directly in sorted, alone there, and nowhere else."""
        right = []
        for node in ast.walk(self.trees[name]):
            if isinstance(node, ast.Call) and isinstance(node.func, ast.Name) and node.func.id == "sorted":
                right += node.args if len(node.args) == 1 and not node.keywords else []
        for node in ast.walk(self.trees[name]):
            if isinstance(node, ast.SetComp) and node not in right:
                self.fault("L24", name, node.lineno, "a set that does not stand in sorted")

    def look_at_iterated(self, name):
        """What is iterated at once stands behind the in of a loop or a comprehension, or alone in a builtin."""
        right = []
        for node in ast.walk(self.trees[name]):
            if isinstance(node, (ast.For, ast.comprehension)):
                right.append(node.iter)
            elif isinstance(node, ast.Call) and isinstance(node.func, ast.Name) and node.func.id in TAKERS:
                right += node.args if len(node.args) == 1 else []
        for node in ast.walk(self.trees[name]):
            lazy = isinstance(node, ast.GeneratorExp)
            if isinstance(node, ast.Call) and isinstance(node.func, ast.Name):
                lazy = node.func.id in ITERATED
            elif isinstance(node, ast.Call) and isinstance(node.func, ast.Attribute):
                lazy = node.func.attr in VIEWS
            if lazy and node not in right:
                self.fault("L23", name, node.lineno, "what is iterated at once is stored or passed on")

    def look_at_compare(self, name, node):
        for sign, right in zip(node.ops, node.comparators):
            plain = isinstance(right, ast.Constant) and (right.value is None or isinstance(right.value, bool))
            if isinstance(sign, (ast.Is, ast.IsNot)) and not plain:
                self.fault("L20", name, node.lineno, "is beside another thing than None, True, False")

    def look_at_constant(self, name, node):
        value = node.value
        if not (value is None or isinstance(value, (int, str))):
            self.fault("L7", name, node.lineno, "a value of another kind")
        elif isinstance(value, int) and abs(value) >= 10 ** 900:
            self.fault("L27", name, node.lineno, "a number of more than 900 digits")

    def look_at_raise(self, name, node):
        made = node.exc.func if isinstance(node.exc, ast.Call) else None
        own = self.known(name).get(made.id) if isinstance(made, ast.Name) else None
        if node.cause or not isinstance(own, ast.ClassDef):
            self.fault("L19", name, node.lineno, "an error that is not made on the spot by its class's name")

    def look_at_plain_name(self, name, node):
        if not PLAIN.match(node.id) or node.id in BARRED_NAMES:
            self.fault("L12", name, node.lineno, f"{node.id} is no plain name")
        if isinstance(node.ctx, ast.Load) and node.id in dir(builtins) and node.id not in BUILTINS:
            self.fault("L8", name, node.lineno, f"{node.id} is a builtin that is not in use here")

    def look_at_attribute(self, name, node):
        if not PLAIN.match(node.attr) or node.attr in BARRED_NAMES:
            self.fault("L12", name, node.lineno, f"{node.attr} is no plain name")
        if isinstance(node.ctx, ast.Store):
            if not isinstance(node.value, ast.Name) or node.value.id != "self":
                self.fault("L18", name, node.lineno, "an attribute is assigned by another name than self")
            if any(node.attr in dir(kind) for kind in (int, str, bytes, list, tuple, dict, set, ValueError)):
                self.fault("L26", name, node.lineno, "an attribute has the name of a builtin value's method")

    def look_at_classes_as_values(self, name):
        """A class is called, is a base, or is raised or asked by isinstance; it is not handed on."""
        tree = self.trees[name]
        right = []
        for node in ast.walk(tree):
            if isinstance(node, ast.Call):
                right.append(node.func)
                if isinstance(node.func, ast.Name) and node.func.id == "isinstance":
                    right += node.args[1:]
            elif isinstance(node, ast.ClassDef):
                right += node.bases
            elif isinstance(node, ast.ExceptHandler):
                right.append(node.type)
        classes = [word for word, own in self.known(name).items() if isinstance(own, ast.ClassDef)]
        calls = [word for word in BUILTINS if word not in classes]
        for node in ast.walk(tree):
            if isinstance(node, ast.Name) and node.id in classes + calls and node not in right:
                self.fault("L18", name, node.lineno, f"{node.id} is handed on as a value")

    def look_at_attributes(self):
        methods, attributes, read = list(self.own_methods()), [], []
        for tree in self.trees.values():
            called = [node.func for node in ast.walk(tree) if isinstance(node, ast.Call)]
            for node in ast.walk(tree):
                if isinstance(node, ast.Attribute) and isinstance(node.ctx, ast.Store):
                    attributes.append(node.attr)
                elif isinstance(node, ast.Attribute) and node not in called:
                    read.append(node.attr)
        for one in attributes:
            if one in methods:
                self.fault("L18", PACKAGE, 1, f"{one} is a method in one class and an attribute in another")
        for one in read:
            if one not in attributes:
                self.fault("L18", PACKAGE, 1, f"{one} is read, but no class assigns it")
        for one in methods:
            if one != "__init__" and any(one in dir(kind) for kind in (int, str, bytes, list, tuple, dict, set)):
                self.fault("L26", PACKAGE, 1, f"{one} is a method of a builtin value, too")


def faults(files):
    return Look(files).found
