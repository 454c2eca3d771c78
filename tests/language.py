"""Looks through the package's files for what ../shared/LANGUAGE.md rules out.

It sees what can be seen in a file's tree without following values; the rest stays for the reader.
Each finding is (FILE, LINE, RULE).
"""

import ast
import builtins
import re

LISTED = set("""len range enumerate zip min max sum abs sorted reversed int str bool list tuple dict set frozenset
isinstance ord repr any all divmod Exception ValueError TypeError KeyError IndexError LookupError ZeroDivisionError
ArithmeticError OverflowError RuntimeError NotImplementedError AttributeError StopIteration""".split())
METHODS = set("""append clear copy count endswith extend find get index insert isalnum isalpha isdigit islower isspace
isupper items join keys ljust lower lstrip partition pop remove replace reverse rfind rjust rpartition rsplit rstrip
setdefault split splitlines startswith strip update upper values zfill bit_length""".split())
FREE_VALUES = set("count index title find get join lower upper split strip copy add".split())
TWO_UNDERSCORES = {"__init__", "__eq__", "__repr__", "__str__", "__len__"}
NO_NAMES = set("""register mro elements open input version_info with_traceback add_note attrgetter breakpoint builtins
compile copyright credits delattr dir eval exec exit gc getattr globals hasattr help id importlib license locals
methodcaller os quit setattr super type vars sys chr print""".split())
NO_ATTRIBUTES = set("register mro elements open input version_info with_traceback add_note format format_map".split())
NO_WORDS = re.compile(r"""\b(type|typing|typing_extensions|enum|Enum|IntEnum|StrEnum|Flag|IntFlag|Generic|Protocol
|ABC|ABCMeta|namedtuple|NamedTuple|TypedDict|TYPE_CHECKING|abstractmethod)\b|dataclass|overload|contextmanager""",
                      re.VERBOSE)
NO_FILES = {"test", "tests", "testing", "site", "conftest", "sitecustomize", "usercustomize", "typing", "enum"}
PYTHONS_OWN = set(dir(builtins))
VALUES_OWN = set().union(*[dir(kind) for kind in (str, int, list, tuple, dict, set, bytes)])
NO_STATEMENTS = (ast.With, ast.AsyncWith, ast.Match, ast.Delete, ast.Global, ast.Nonlocal, ast.Assert, ast.AsyncFor,
                 ast.AsyncFunctionDef, ast.Await, ast.Yield, ast.YieldFrom, ast.TryStar, ast.AnnAssign)
NO_EXPRESSIONS = (ast.SetComp, ast.DictComp, ast.GeneratorExp, ast.NamedExpr, ast.Starred, ast.Div, ast.MatMult)
WALKED = {"zip", "enumerate", "reversed", "range"}
WALKED_METHODS = {"items", "keys", "values"}
WALKERS = {"list", "tuple", "dict", "sorted", "sum", "any", "all", "enumerate", "zip", "min", "max"}
KEYWORDS = {"sorted": {"key", "reverse"}, "min": {"key", "default"}, "max": {"key", "default"}, "sum": {"start"},
            "enumerate": {"start"}, "zip": {"strict"}}


def name_called(node):
    if isinstance(node, ast.Call) and isinstance(node.func, ast.Name):
        return node.func.id
    return None


def method_called(node):
    if isinstance(node, ast.Call) and isinstance(node.func, ast.Attribute):
        return node.func.attr
    return None


def top_names(tree):
    """The names that a file binds at its top, imports apart."""
    names = []
    for node in tree.body:
        if isinstance(node, (ast.FunctionDef, ast.ClassDef)):
            names.append(node.name)
        elif isinstance(node, ast.Assign):
            names.extend(target.id for target in node.targets if isinstance(target, ast.Name))
    return names


def imported_names(tree):
    return [one.asname or one.name for node in tree.body if isinstance(node, ast.ImportFrom) for one in node.names]


class Looker:
    def __init__(self, package, files):
        """files: the text of each file by its name, as `rows.py`."""
        self.package = package
        self.texts = files
        self.trees = {name: ast.parse(text) for name, text in files.items()}
        self.findings = []
        self.file = ""
        self.own_methods = set()
        self.own_values = set()
        for tree in self.trees.values():
            self.gather(tree)

    def gather(self, tree):
        for node in ast.walk(tree):
            if isinstance(node, ast.ClassDef):
                self.own_methods.update(one.name for one in node.body if isinstance(one, ast.FunctionDef))
            if isinstance(node, ast.Attribute) and isinstance(node.ctx, ast.Store):
                self.own_values.add(node.attr)

    def say(self, line, rule, wrong=True):
        if wrong:
            self.findings.append((self.file, getattr(line, "lineno", line), rule))

    def look(self):
        self.look_at_names_of_files()
        self.look_for_rings()
        for self.file in sorted(self.trees):
            tree = self.trees[self.file]
            for node in ast.walk(tree):
                for child in ast.iter_child_nodes(node):
                    child.above = node
            self.look_at_signs(self.texts[self.file])
            self.look_at_top(tree)
            for node in ast.walk(tree):
                self.look_at_node(node)
        return self.findings

    def look_at_names_of_files(self):
        self.say(0, "L14", "__init__.py" not in self.trees)
        for self.file in self.trees:
            stem = self.file.removesuffix(".py")
            self.say(0, "L1", not re.fullmatch(r"[a-z0-9_]+\.py", self.file))
            self.say(0, "L14", stem in NO_FILES | PYTHONS_OWN or stem.startswith("test_"))
        self.file = ""
        self.say(0, "L18", bool((self.own_methods - TWO_UNDERSCORES) & self.own_values))

    def look_for_rings(self):
        """No two files draw from one another: files that draw on none that is left go first."""
        left = {name: {f"{one}.py" for one in self.drawn_from(tree)} for name, tree in self.trees.items()}
        free = [True]
        while free:
            free = [name for name, drawn in left.items() if not drawn & set(left)]
            left = {name: drawn for name, drawn in left.items() if name not in free}
        self.say(0, "L16", bool(left))

    def drawn_from(self, tree):
        found = [node.module or "" for node in ast.walk(tree) if isinstance(node, ast.ImportFrom)]
        return [module.removeprefix(f"{self.package}.") for module in found]

    def look_at_signs(self, text):
        rows = text.split("\n")
        self.say(len(rows), "L10", len(rows) > 401)
        for number, row in enumerate(rows, start=1):
            self.say(number, "L10", len(row) > 120 or "\t" in row)
            self.say(number, "L14", any(not " " <= sign <= "~" for sign in row))
            self.say(number, "L17", bool(NO_WORDS.search(row)))
            self.say(number, "L27", bool(re.search(r"\\[^nt\\'\"]", row.replace("\\\\", ""))))

    def look_at_top(self, tree):
        names = top_names(tree) + imported_names(tree)
        self.say(1, "L15", len(names) != len(set(names)))
        for place, node in enumerate(tree.body):
            docstring = place == 0 and isinstance(node, ast.Expr) and isinstance(node.value, ast.Constant)
            plain = isinstance(node, ast.Assign) and self.is_plain(node.value)
            kinds = (ast.ImportFrom, ast.FunctionDef, ast.ClassDef)
            self.say(node, "L3", not (docstring or plain or isinstance(node, kinds)))

    def is_plain(self, node):
        if isinstance(node, (ast.List, ast.Tuple)):
            return all(self.is_plain(one) for one in node.elts)
        if isinstance(node, ast.Dict):
            return all(self.is_plain(one) for one in node.keys + node.values)
        if isinstance(node, ast.UnaryOp):
            return isinstance(node.op, ast.USub) and self.is_plain(node.operand)
        return isinstance(node, (ast.Constant, ast.Name))

    def look_at_node(self, node):
        self.say(node, "L6", isinstance(node, NO_STATEMENTS))
        if isinstance(node, NO_EXPRESSIONS):
            self.say(node if hasattr(node, "lineno") else node.above, "L7")
        looks = {ast.ImportFrom: self.look_at_import, ast.FunctionDef: self.look_at_def, ast.Lambda: self.look_at_args,
                 ast.ClassDef: self.look_at_class, ast.Name: self.look_at_name, ast.Attribute: self.look_at_attribute,
                 ast.Call: self.look_at_call, ast.Compare: self.look_at_comparison, ast.Constant: self.look_at_constant,
                 ast.ListComp: self.look_at_comprehension, ast.FormattedValue: self.look_at_braces,
                 ast.Set: self.look_at_set, ast.BinOp: self.look_at_power}
        if type(node) in looks:
            looks[type(node)](node)
        self.look_at_statement(node)

    def look_at_statement(self, node):
        if isinstance(node, ast.Import):
            self.say(node, "L16")
        if isinstance(node, (ast.For, ast.While)):
            self.say(node, "L6", bool(node.orelse))
        if isinstance(node, ast.Try):
            self.say(node, "L6", bool(node.finalbody))
        if isinstance(node, ast.Assign):
            self.say(node, "L6", len(node.targets) != 1)
        if isinstance(node, ast.Expr):
            self.say(node, "L6", not isinstance(node.value, (ast.Call, ast.Constant)))
        if isinstance(node, ast.Raise):
            self.say(node, "L19", not isinstance(node.exc, ast.Call))
        if isinstance(node, ast.ExceptHandler):
            wide = node.type is None or {"Exception", "TypeError"} & {one.id for one in ast.walk(node.type)
                                                                     if isinstance(one, ast.Name)}
            self.say(node, "L19", bool(wide))

    def look_at_import(self, node):
        module = (node.module or "").removeprefix(f"{self.package}.")
        whole = node.level == 0 and node.module != module and f"{module}.py" in self.trees
        star = node.names[0].name == "*"
        self.say(node, "L2", not whole or star or not isinstance(node.above, ast.Module))
        if whole:
            defined = top_names(self.trees[f"{module}.py"])
            self.say(node, "L16", any(one.name not in defined for one in node.names))

    def look_at_def(self, node):
        self.say(node, "L4", bool(node.decorator_list))
        self.say(node, "L10", node.end_lineno - node.lineno >= 40)
        self.say(node, "L12", node.name.startswith("_") and node.name not in TWO_UNDERSCORES)
        self.say(node, "L21", node.returns is not None)
        self.look_at_args(node)
        if isinstance(node.above, ast.ClassDef):
            self.say(node, "L26", node.name in VALUES_OWN - METHODS - TWO_UNDERSCORES - {"add", "discard"})
        else:
            self.say(node, "L15", node.name in PYTHONS_OWN)

    def look_at_args(self, node):
        given = node.args
        self.say(node, "L4", bool(given.vararg or given.kwarg or given.kwonlyargs or given.posonlyargs))
        self.say(node, "L4", not all(isinstance(one, (ast.Constant, ast.Tuple)) for one in given.defaults))
        for one in given.args:
            self.say(node, "L21", one.annotation is not None)
            self.look_at_binding(node, one.arg)

    def look_at_binding(self, node, name):
        tree = self.trees[self.file]
        classes = [one.name for one in tree.body if isinstance(one, ast.ClassDef)]
        self.say(node, "L15", name in PYTHONS_OWN or name in imported_names(tree) + classes)
        self.say(node, "L12", name.startswith("_"))

    def look_at_class(self, node):
        self.say(node, "L15", not isinstance(node.above, ast.Module))
        self.say(node, "L5", len(node.bases) > 1 or bool(node.keywords or node.decorator_list))
        for one in node.body:
            docstring = isinstance(one, ast.Expr) and isinstance(one.value, ast.Constant)
            self.say(one, "L5", not (docstring or isinstance(one, (ast.FunctionDef, ast.Pass))))

    def look_at_name(self, node):
        self.say(node, "L17", node.id in NO_NAMES)
        if isinstance(node.ctx, ast.Store):
            self.look_at_binding(node, node.id)
        else:
            self.say(node, "L8", node.id in PYTHONS_OWN - LISTED)

    def look_at_attribute(self, node):
        self.say(node, "L17", node.attr in NO_ATTRIBUTES)
        self.say(node, "L12", node.attr.startswith("_") and node.attr not in TWO_UNDERSCORES)
        if isinstance(node.ctx, ast.Store):
            self.say(node, "L26", node.attr in VALUES_OWN - FREE_VALUES | {"args"})

    def look_at_call(self, node):
        name = name_called(node)
        method = method_called(node)
        known = METHODS | self.own_methods | TWO_UNDERSCORES
        self.say(node, "L25", method is not None and method not in known)
        if name in LISTED:
            self.say(node, "L22", any(one.arg not in KEYWORDS.get(name, ()) for one in node.keywords))
        if name in WALKED or method in WALKED_METHODS:
            self.say(node, "L23", not self.is_walked(node))
        if name in ("set", "frozenset"):
            self.look_at_set(node)

    def is_walked(self, node):
        above = node.above
        if isinstance(above, (ast.For, ast.comprehension)):
            return above.iter is node
        return name_called(above) in WALKERS or method_called(above) == "join"

    def look_at_set(self, node):
        above = node.above
        while isinstance(above, ast.BinOp):
            above = above.above
        self.say(node, "L24", not (isinstance(above, ast.Compare) or name_called(above) in ("sorted", "len")))

    def look_at_comparison(self, node):
        if any(isinstance(one, (ast.Is, ast.IsNot)) for one in node.ops):
            sides = [node.left] + node.comparators
            named = [one for one in sides if isinstance(one, ast.Constant) and one.value in (None, True, False)]
            self.say(node, "L20", not named)

    def look_at_constant(self, node):
        self.say(node, "L7", not (node.value is None or isinstance(node.value, (bool, int, str))))
        self.say(node, "L27", isinstance(node.value, str) and "%" in node.value)

    def look_at_comprehension(self, node):
        self.say(node, "L7", len(node.generators) > 1 or len(node.generators[0].ifs) > 1)

    def look_at_braces(self, node):
        plain = isinstance(node.value, ast.Name) and node.format_spec is None and node.conversion in (-1, ord("r"))
        self.say(node, "L7", not plain)

    def look_at_power(self, node):
        if isinstance(node.op, ast.Pow):
            self.say(node, "L27", not (isinstance(node.right, ast.Constant) and 0 <= node.right.value <= 64))
