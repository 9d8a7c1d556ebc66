"""Finds breaches of the language's rules L1 to L28 in the files of a package.

Where a rule allows more than the package uses, the checker is narrower than the rule: what it
refuses may be allowed there, what it lets by is allowed. A breach is a triple (rule, place, why).
"""

import ast
import builtins
import io
import os
import re
import sys
import tokenize
import warnings

BUILTINS = set(
    "len range enumerate zip min max sum abs sorted reversed int str bool list tuple dict set isinstance ord repr"
    " any all divmod".split()
)
KINDS_OF_VALUES = {"int", "str", "bool", "bytes", "list", "tuple", "dict"}
ERRORS = set(
    "Exception ValueError TypeError KeyError IndexError LookupError ZeroDivisionError ArithmeticError"
    " OverflowError RuntimeError NotImplementedError AttributeError".split()
)
METHODS = set(
    "append clear copy count endswith extend find get index insert isalnum isalpha isdigit islower isspace isupper"
    " items join keys ljust lower lstrip partition pop remove replace reverse rfind rjust rpartition rsplit rstrip"
    " setdefault split splitlines startswith strip update upper values zfill bit_length".split()
)
MODIFYING = set("append clear extend insert pop remove reverse setdefault update".split())
OF_BUILTIN_VALUES = {name for kind in (str, int, list, tuple, dict, set, bytes) for name in dir(kind)}
FREE_METHODS = METHODS | {"add", "discard"}
FREE_ATTRIBUTES = set("count index title find get join lower upper split strip copy add".split())
VIEWS = {"range", "zip", "enumerate", "reversed", "items", "keys", "values"}
TAKERS = set("list tuple dict sorted sum any all enumerate zip min max".split())
NEVER = set("register mro elements open input law version_info with_traceback add_note".split())
NOT_NAMES = set(
    "attrgetter breakpoint builtins compile copyright credits delattr dir eval exec exit gc getattr globals hasattr"
    " help id importlib license locals methodcaller os quit setattr super type vars sys".split()
)
WORDS_NOWHERE = set(
    "typing typing_extensions enum Enum IntEnum StrEnum Flag IntFlag Generic Protocol ABC ABCMeta namedtuple"
    " NamedTuple TypedDict TYPE_CHECKING abstractmethod".split()
)
PARTS_NOWHERE = ("dataclass", "overload", "contextmanager", "_wall", "_WallAttr")
NO_ATTRIBUTES = set(
    "items keys values pop update append clear extend insert remove reverse setdefault sort args encode decode hex"
    " fromhex format format_map mro".split()
)
NO_BEGINNINGS = ("_wall", "_pe_", "_dcw_", "_enum_", "_cm_", "_twin_re_", "_lay_", "_law_", "_stub_", "_sre")
NO_NAMES = ("_cold", "_tuplegetter", "_outside", "_record", "_written_out", "_member_names")
NO_FILES = {"test", "tests", "testing", "site", "conftest", "sitecustomize", "usercustomize", "heapq", "math", "itertools"}
FRAME_NAME = re.compile(r"^(f_(back|builtins|code|globals|lasti|lineno|locals|trace\w*)|tb_(frame|lasti|lineno|next)|co_\w+)$")
PLAIN_NAME = re.compile(r"^_?[A-Za-z][A-Za-z0-9_]*$")
STATEMENTS = (
    ast.Assign, ast.AugAssign, ast.If, ast.While, ast.For, ast.Return, ast.Break, ast.Continue, ast.Pass, ast.Raise,
    ast.Assert, ast.Delete, ast.Expr, ast.FunctionDef, ast.ClassDef, ast.ImportFrom, ast.Try,
)
EXPRESSIONS = (
    ast.BoolOp, ast.BinOp, ast.UnaryOp, ast.IfExp, ast.Dict, ast.ListComp, ast.DictComp, ast.Compare, ast.Call,
    ast.FormattedValue, ast.JoinedStr, ast.Constant, ast.Attribute, ast.Subscript, ast.Starred, ast.Name, ast.List,
    ast.Tuple, ast.Slice, ast.Set,
)


class File:
    """A file of the package with what it binds at module level."""

    def __init__(self, name, text):
        self.name = name
        self.text = text
        self.tree = ast.parse(text)
        self.functions = {}
        self.classes = {}
        self.values = {}
        self.imports = {}
        self.parents = {}
        for node in ast.walk(self.tree):
            for child in ast.iter_child_nodes(node):
                self.parents[child] = node
        for node in self.tree.body:
            if isinstance(node, ast.FunctionDef):
                self.functions[node.name] = node
            elif isinstance(node, ast.ClassDef):
                self.classes[node.name] = node
            elif isinstance(node, ast.Assign) and isinstance(node.targets[0], ast.Name):
                self.values[node.targets[0].id] = node.value
            elif isinstance(node, ast.ImportFrom):
                for alias in node.names:
                    self.imports[alias.name] = node.module

    def bound(self):
        return {**self.functions, **self.classes, **self.values, **self.imports}

    def functions_within(self):
        return [node for node in ast.walk(self.tree) if isinstance(node, ast.FunctionDef)]

    def classes_within(self):
        return [node for node in ast.walk(self.tree) if isinstance(node, ast.ClassDef)]


class Checker:
    """The breaches of a package, given as a dict from file names without .py to texts."""

    def __init__(self, package, texts):
        self.package = package
        self.found = []
        self.files = {}
        for name, text in texts.items():
            self.check_characters(name, text)
            try:
                with warnings.catch_warnings():
                    warnings.simplefilter("error")
                    compile(text, name, "exec")
                self.files[name] = File(name, text)
            except (SyntaxError, ValueError) as error:
                self.tell("L27", name, 0, f"does not compile without a warning: {error}")
        self.methods = {}
        self.attributes = set()
        for file in self.files.values():
            self.gather(file)
        for file in self.files.values():
            self.check_file(file)
        self.check_cycles()

    def tell(self, rule, name, line, why):
        self.found.append((rule, f"{name}.py:{line}", why))

    def gather(self, file):
        for node in file.classes.values():
            for method in node.body:
                if isinstance(method, ast.FunctionDef):
                    self.methods.setdefault(method.name, []).append(method)
        for node in ast.walk(file.tree):
            if isinstance(node, ast.Attribute) and isinstance(node.ctx, ast.Store):
                self.attributes.add(node.attr)

    # L10, L12, L14, L17, L27: characters, lines, and words that stand nowhere.

    def check_characters(self, name, text):
        lines = text.split("\n")
        if len(lines) - 1 > 399:
            self.tell("L10", name, 400, "the file has more than 399 lines")
        for at, line in enumerate(lines, 1):
            if len(line) > 120:
                self.tell("L10", name, at, "the line has more than 120 characters")
            if any(not " " <= sign <= "~" for sign in line):
                self.tell("L14", name, at, "a character other than those from the space to ~")
            if "_wall" in line or "_WallAttr" in line:
                self.tell("L12", name, at, "a word that stands nowhere")
        try:
            tokens = list(tokenize.generate_tokens(io.StringIO(text).readline))
        except (tokenize.TokenError, SyntaxError):
            return
        for token in tokens:
            if token.type == tokenize.STRING:
                self.check_written_string(name, token)

    def check_written_string(self, name, token):
        if re.search(r"\\(?![nt\\'\"])", token.string):
            self.tell("L27", name, token.start[0], "an escape that is not listed")
        if re.match(r"^[rRbBuU]", token.string):
            self.tell("L7", name, token.start[0], "a string with a prefix other than f")

    def check_file(self, file):
        self.check_file_name(file)
        self.check_module_level(file)
        self.check_imports(file)
        self.check_nodes(file)
        self.check_names(file)
        for node in file.functions_within():
            self.check_function(file, node)
        for node in file.classes_within():
            self.check_class(file, node)

    # L1, L14: names of files.

    def check_file_name(self, file):
        name = file.name
        if name == "__init__":
            if len(file.tree.body) != 1 or not is_docstring(file.tree.body[0]):
                self.tell("L16", name, 1, "__init__.py holds more than a docstring")
            return
        if not re.match(r"^[a-z][a-z0-9_]*$", name):
            self.tell("L1", name, 0, "the file has no plain lower-case name")
        if name in NO_FILES or name.startswith(("law_", "test_")) or hasattr(builtins, name):
            self.tell("L14", name, 0, "a file may not be called so")
        if name in NEVER or name in WORDS_NOWHERE:
            self.tell("L14", name, 0, "a file may not be called so")

    # L2, L3, L15, L16: module level.

    def check_module_level(self, file):
        bound = []
        seen_other = False
        for at, node in enumerate(file.tree.body):
            if at == 0 and is_docstring(node):
                continue
            if isinstance(node, ast.ImportFrom):
                if seen_other:
                    self.tell("L2", file.name, node.lineno, "an import that does not stand at the top")
                bound.extend([alias.name for alias in node.names])
                continue
            seen_other = True
            if isinstance(node, (ast.FunctionDef, ast.ClassDef)):
                bound.append(node.name)
            elif isinstance(node, ast.Assign) and len(node.targets) == 1 and isinstance(node.targets[0], ast.Name):
                self.check_value(file, node.value, bound, True)
                bound.append(node.targets[0].id)
            else:
                self.tell("L3", file.name, node.lineno, "a statement that may not stand at module level")
        for name in sorted(set(bound)):
            if bound.count(name) > 1:
                self.tell("L15", file.name, 0, f"{name} is bound more than once")
            if hasattr(builtins, name):
                self.tell("L15", file.name, 0, f"{name} is the name of a builtin")

    def check_value(self, file, node, bound, outermost):
        if isinstance(node, (ast.List, ast.Dict)) and not outermost:
            self.tell("L15", file.name, node.lineno, "a list or dict within one at module level")
        if isinstance(node, (ast.List, ast.Tuple)):
            for item in node.elts:
                self.check_value(file, item, bound, False)
        elif isinstance(node, ast.Dict):
            for item in [*node.keys, *node.values]:
                self.check_value(file, item, bound, False)
        elif isinstance(node, ast.BinOp):
            self.check_value(file, node.left, bound, False)
            self.check_value(file, node.right, bound, False)
        elif isinstance(node, ast.UnaryOp):
            self.check_value(file, node.operand, bound, False)
        elif isinstance(node, ast.Name):
            if node.id not in bound or node.id in file.classes:
                self.tell("L3", file.name, node.lineno, f"{node.id} is no function defined above")
        elif not isinstance(node, ast.Constant):
            self.tell("L3", file.name, getattr(node, "lineno", 0), "a value that is not plain")

    def check_imports(self, file):
        for node in ast.walk(file.tree):
            if isinstance(node, ast.Import):
                self.tell("L16", file.name, node.lineno, "an import without from")
            if not isinstance(node, ast.ImportFrom):
                continue
            module = node.module or ""
            if node.level or not module.startswith(self.package + "."):
                self.tell("L2", file.name, node.lineno, "an import from outside the package, or with a leading dot")
                continue
            other = self.files.get(module[len(self.package) + 1:])
            for alias in node.names:
                if alias.name == "*" or alias.asname is not None:
                    self.tell("L2", file.name, node.lineno, "an import with * or as")
                elif other is None or alias.name not in {**other.functions, **other.classes, **other.values}:
                    self.tell("L16", file.name, node.lineno, f"{alias.name} is not defined in {module}")
                if file.text.count(alias.name) < 2 or not is_read(file, alias.name):
                    self.tell("L16", file.name, node.lineno, f"{alias.name} is imported for nothing")

    def check_cycles(self):
        def reached(name):
            seen = set()
            waiting = [name]
            while waiting:
                for module in set(self.files[waiting.pop()].imports.values()):
                    other = module[len(self.package) + 1:] if module else ""
                    if other in self.files and other not in seen:
                        seen.add(other)
                        waiting.append(other)
            return seen
        for name in self.files:
            if name in reached(name):
                self.tell("L16", name, 0, "the file imports from itself through others")

    # L6, L7, L9, L19, L20, L22, L23, L24, L27: statements and expressions.

    def check_nodes(self, file):
        for node in ast.walk(file.tree):
            line = getattr(node, "lineno", 0)
            if isinstance(node, ast.stmt) and not isinstance(node, STATEMENTS):
                self.tell("L6", file.name, line, f"the statement {type(node).__name__}")
            if isinstance(node, ast.expr) and not isinstance(node, EXPRESSIONS):
                self.tell("L7", file.name, line, f"the expression {type(node).__name__}")
            check = getattr(self, "on_" + type(node).__name__, None)
            if check is not None:
                check(file, node)

    def on_Expr(self, file, node):
        if not isinstance(node.value, ast.Call) and not is_docstring(node):
            self.tell("L6", file.name, node.lineno, "an expression on its own that is no call")

    def on_AugAssign(self, file, node):
        if isinstance(node.target, ast.Subscript) and isinstance(node.target.slice, ast.Slice):
            self.tell("L6", file.name, node.lineno, "an augmented assignment of a slice")
        if isinstance(node.op, (ast.Div, ast.MatMult, ast.Pow)):
            self.tell("L7", file.name, node.lineno, "the operator /=, @= or **=")

    def on_Assign(self, file, node):
        for target in node.targets:
            for part in ast.walk(target):
                if isinstance(part, (ast.List, ast.Starred)) and isinstance(part.ctx, ast.Store):
                    self.tell("L6", file.name, node.lineno, "a target in brackets or with a star")

    def on_BinOp(self, file, node):
        if isinstance(node.op, (ast.Div, ast.MatMult)):
            self.tell("L7", file.name, node.lineno, "the operator / or @")
        if isinstance(node.op, ast.Pow) and not is_literal_exponent(node.right):
            self.tell("L27", file.name, node.lineno, "an exponent that is no literal from 0 to 64")

    def on_Constant(self, file, node):
        value = node.value
        if isinstance(value, (float, complex, bytes)) or value is Ellipsis:
            self.tell("L7", file.name, node.lineno, "a literal of a kind that is not used")
        if isinstance(value, int) and abs(value) >= 10 ** 900:
            self.tell("L27", file.name, node.lineno, "a number of more than 900 digits")
        if isinstance(value, str):
            self.check_string(file, node, value)

    def check_string(self, file, node, value):
        if "%" in value:
            self.tell("L27", file.name, node.lineno, "the character for formats in a string")
        if value.endswith(("._", ".__")) or re.match(r"^__.*__$", value, re.DOTALL) or FRAME_NAME.match(value):
            self.tell("L27", file.name, node.lineno, "a string that may not stand")
        if is_docstring(file.parents[node]):
            return
        words = set(re.findall(r"\w+", value))
        if words & WORDS_NOWHERE or any(part in value for part in PARTS_NOWHERE):
            self.tell("L17", file.name, node.lineno, "a string with a word that stands nowhere")

    def on_Compare(self, file, node):
        for op, side in zip(node.ops, [node.left, *node.comparators]):
            if isinstance(op, (ast.Is, ast.IsNot)):
                sides = [node.left, *node.comparators]
                if not any(isinstance(part, ast.Constant) and part.value in (None, True, False) for part in sides):
                    self.tell("L20", file.name, node.lineno, "is between other things than None, True and False")

    def on_Raise(self, file, node):
        if node.exc is None:
            return
        if not isinstance(node.exc, ast.Call) or not isinstance(node.exc.func, ast.Name):
            self.tell("L19", file.name, node.lineno, "raise does not create its error on the spot")
        if node.cause is not None:
            self.tell("L19", file.name, node.lineno, "raise .. from is not used here")

    def on_Try(self, file, node):
        for handler in node.handlers:
            named = handler.type.elts if isinstance(handler.type, ast.Tuple) else [handler.type]
            for name in named:
                if not isinstance(name, ast.Name) or name.id in ERRORS - {"KeyError", "ZeroDivisionError"}:
                    self.tell("L19", file.name, handler.lineno, "an error is caught that is neither own nor listed")
        if node.finalbody:
            self.tell("L6", file.name, node.lineno, "finally is not used here")

    def on_JoinedStr(self, file, node):
        for part in ast.walk(node):
            if isinstance(part, ast.FormattedValue) and (part.format_spec is not None or part.conversion == 97):
                self.tell("L7", file.name, node.lineno, "a format in an f-string")
            if part is not node and isinstance(part, ast.JoinedStr):
                self.tell("L27", file.name, node.lineno, "an f-string inside the braces of another one")
            if isinstance(part, ast.FormattedValue):
                for inner in ast.walk(part.value):
                    if isinstance(inner, ast.Constant) and isinstance(inner.value, str):
                        self.tell("L27", file.name, node.lineno, "a string inside the braces of an f-string")

    def on_Set(self, file, node):
        parent = file.parents[node]
        if not isinstance(parent, ast.Compare) or not isinstance(parent.ops[-1], (ast.In, ast.NotIn)):
            self.tell("L24", file.name, node.lineno, "a set literal that does not stand after in")

    def on_ListComp(self, file, node):
        loops = len(node.generators)
        tests = sum(len(part.ifs) for part in node.generators)
        if loops > 6 or tests > 12:
            self.tell("L7", file.name, node.lineno, "a comprehension with too many for or if")
        if enclosing_function(file, node) is None:
            self.tell("L7", file.name, node.lineno, "a comprehension outside of functions")

    on_DictComp = on_ListComp

    def on_For(self, file, node):
        iterated = [ast.unparse(part) for part in iterated_parts(node.iter)]
        for part in node.body:
            for inner in ast.walk(part):
                if modified(inner) in iterated:
                    self.tell("L23", file.name, inner.lineno, "what the loop iterates over is modified in it")

    def on_Starred(self, file, node):
        parent = file.parents[node]
        if isinstance(parent, ast.Call) or isinstance(node.ctx, ast.Store):
            self.tell("L7", file.name, node.lineno, "a star in a call or a target")

    def on_Delete(self, file, node):
        for target in node.targets:
            if not isinstance(target, (ast.Subscript, ast.Name)):
                self.tell("L6", file.name, node.lineno, "del of something else than an item or a name")

    def on_Call(self, file, node):
        func = node.func
        if isinstance(func, ast.Name):
            self.check_named_call(file, node)
        elif isinstance(func, ast.Attribute):
            self.check_method_call(file, node)
        else:
            self.tell("L3", file.name, node.lineno, "a call of something that is neither a name nor an attribute")
        name = func.id if isinstance(func, ast.Name) else getattr(func, "attr", "")
        own = isinstance(func, ast.Name) and func.id in file.bound()
        if name in VIEWS and not own and not self.is_iterated_at_once(file, node):
            self.tell("L23", file.name, node.lineno, f"{name}(..) that is not iterated at once")
        if name == "set" and not own and not is_set_place(file, node):
            self.tell("L24", file.name, node.lineno, "a set that is stored or iterated")

    def check_named_call(self, file, node):
        name = node.func.id
        keywords = {word.arg for word in node.keywords}
        if None in keywords:
            self.tell("L7", file.name, node.lineno, "two stars in a call")
        target = self.definition(file, name)
        if target is not None:
            self.check_arguments(file, node, target)
        elif name in BUILTINS:
            allowed = {"sorted": {"key", "reverse"}, "min": {"key", "default"}, "max": {"key", "default"}}
            if keywords - allowed.get(name, {"start"} if name in ("sum", "enumerate") else set()):
                self.tell("L22", file.name, node.lineno, f"a keyword of {name} that is not allowed")
        if name == "isinstance" and len(node.args) == 2:
            kinds = node.args[1].elts if isinstance(node.args[1], ast.Tuple) else [node.args[1]]
            for kind in kinds:
                if not isinstance(kind, ast.Name) or kind.id not in KINDS_OF_VALUES | set(self.all_classes(file)):
                    self.tell("L22", file.name, node.lineno, "isinstance with another kind")

    def all_classes(self, file):
        imported = [name for name in file.imports if isinstance(self.definition(file, name), ast.ClassDef)]
        return [*file.classes, *imported]

    def definition(self, file, name):
        """The function or class that a name of a file means, None if it is neither."""
        if name in file.imports:
            module = file.imports[name] or ""
            other = self.files.get(module[len(self.package) + 1:])
            if other is None:
                return None
            return other.functions.get(name) or other.classes.get(name)
        return file.functions.get(name) or file.classes.get(name)

    def check_arguments(self, file, node, target):
        if isinstance(target, ast.ClassDef):
            made = [part for part in target.body if isinstance(part, ast.FunctionDef) and part.name == "__init__"]
            if not made:
                if node.keywords or len(node.args) > 1:
                    self.tell("L22", file.name, node.lineno, "a class without __init__ is passed too much")
                return
            self.check_passed(file, node, made[0].args, 1)
        else:
            self.check_passed(file, node, target.args, 0)

    def check_passed(self, file, node, arguments, skipped):
        names = [argument.arg for argument in arguments.args][skipped:]
        least = len(names) - len(arguments.defaults)
        given = names[:len(node.args)] + [word.arg for word in node.keywords]
        if len(node.args) > len(names) or sorted(set(given)) != sorted(given) or not set(given) <= set(names):
            self.tell("L22", file.name, node.lineno, "a call passes more than is taken")
        elif not set(names[:least]) <= set(given):
            self.tell("L22", file.name, node.lineno, "a call passes less than is taken")

    def check_method_call(self, file, node):
        name = node.func.attr
        if name == "__init__":
            return
        if name in self.methods:
            counts = [len(method.args.args) - 1 for method in self.methods[name]]
            if name not in METHODS and len(node.args) + len(node.keywords) not in counts:
                if not any(method.args.defaults for method in self.methods[name]):
                    self.tell("L22", file.name, node.lineno, f"{name} is passed more or less than it takes")
        elif name not in METHODS:
            self.tell("L25", file.name, node.lineno, f"the method {name} is not listed")
        if name in METHODS and node.keywords:
            self.tell("L25", file.name, node.lineno, f"a keyword with the method {name}")

    def is_iterated_at_once(self, file, node):
        parent = file.parents[node]
        if isinstance(parent, (ast.For, ast.comprehension)):
            return parent.iter is node
        if isinstance(parent, ast.Compare):
            return getattr(node.func, "id", getattr(node.func, "attr", "")) in ("range", "keys")
        if isinstance(parent, ast.Call) and isinstance(parent.func, ast.Name):
            name = getattr(node.func, "id", "")
            if parent.func.id == "reversed":
                return name == "range" or getattr(node.func, "attr", "") == ""
            return parent.func.id in TAKERS or parent.func.id == "len" and name == "range"
        return isinstance(parent, ast.Call) and getattr(parent.func, "attr", "") == "join"

    # L8, L12, L15, L17, L18, L25, L26: names.

    def check_names(self, file):
        for node in ast.walk(file.tree):
            line = getattr(node, "lineno", 0)
            for name, sort in names_of(node):
                self.check_name(file, name, sort, line)
            if isinstance(node, ast.Attribute):
                self.check_attribute(file, node)
            if isinstance(node, ast.Name) and isinstance(node.ctx, ast.Load):
                self.check_read(file, node)

    def check_name(self, file, name, sort, line):
        if name == "__init__" and sort == "function":
            return
        if name.startswith("__"):
            self.tell("L8", file.name, line, f"the name {name}")
        elif name != "_" and not PLAIN_NAME.match(name):
            self.tell("L12", file.name, line, f"the name {name} is not plain")
        if sort == "class" and name.startswith("_"):
            self.tell("L12", file.name, line, f"the class {name} does not begin with a letter")
        if name.startswith(NO_BEGINNINGS) or re.sub(r"[0-9_]+$", "", name) in NO_NAMES:
            self.tell("L12", file.name, line, f"the name {name} is kept")
        if name in NEVER or FRAME_NAME.match(name) or name in WORDS_NOWHERE:
            self.tell("L17", file.name, line, f"the name {name} is not used")
        if sort != "attribute" and name in NOT_NAMES:
            self.tell("L17", file.name, line, f"the name {name} is not used")
        if any(part in name for part in PARTS_NOWHERE):
            self.tell("L17", file.name, line, f"the name {name} is not used")

    def check_attribute(self, file, node):
        name = node.attr
        parent = file.parents[node]
        called = isinstance(parent, ast.Call) and parent.func is node
        if name == "__init__":
            around = enclosing_function(file, node)
            if not called or around is None or around.name != "__init__":
                self.tell("L28", file.name, node.lineno, "__init__ is called outside of an __init__")
            return
        if name.startswith("__"):
            self.tell("L8", file.name, node.lineno, f"the attribute {name}")
        if isinstance(node.ctx, ast.Store) and name in NO_ATTRIBUTES:
            self.tell("L26", file.name, node.lineno, f"an attribute called {name}")
        if isinstance(node.ctx, ast.Store) and name in OF_BUILTIN_VALUES - FREE_ATTRIBUTES:
            self.tell("L26", file.name, node.lineno, f"an attribute called {name}")
        if isinstance(node.ctx, ast.Load) and not called and name not in self.attributes:
            self.tell("L18", file.name, node.lineno, f"the attribute {name} is assigned by no class")
        if isinstance(node.ctx, ast.Del):
            self.tell("L6", file.name, node.lineno, "del of an attribute")
        if name in self.methods and name in self.attributes:
            self.tell("L18", file.name, node.lineno, f"{name} is a method and an attribute")
        if isinstance(node.value, ast.Name) and node.value.id in file.bound() and node.value.id not in file.values:
            self.tell("L18", file.name, node.lineno, "an attribute of a class or function")

    def check_read(self, file, node):
        name = node.id
        parent = file.parents[node]
        if name == "_":
            self.tell("L12", file.name, node.lineno, "_ is read")
        around = enclosing_function(file, node)
        if around is not None and name in locals_around(file, node):
            return
        if name in file.bound():
            self.check_module_name(file, node, parent)
        elif name in BUILTINS | ERRORS:
            called = isinstance(parent, ast.Call) and parent.func is node
            if name in ERRORS:
                called = called or isinstance(parent, (ast.ExceptHandler, ast.Tuple, ast.ClassDef))
                called = called or isinstance(parent, ast.Attribute) and parent.attr == "__init__"
            if not called and not is_kind_place(file, node):
                self.tell("L22", file.name, node.lineno, f"{name} is used as a value")
        elif not is_kind_place(file, node):
            self.tell("L8", file.name, node.lineno, f"the builtin or unknown name {name}")

    def check_module_name(self, file, node, parent):
        target = self.definition(file, node.id)
        if isinstance(target, ast.ClassDef):
            called = isinstance(parent, ast.Call) and parent.func is node
            within = isinstance(parent, (ast.ClassDef, ast.ExceptHandler)) or is_kind_place(file, node)
            within = within or isinstance(parent, ast.Tuple) and isinstance(file.parents[parent], ast.ExceptHandler)
            begun = isinstance(parent, ast.Attribute) and parent.attr == "__init__"
            if not called and not within and not begun:
                self.tell("L18", file.name, node.lineno, f"the class {node.id} is used as a value")
        if target is None and isinstance(self.module_value(file, node.id), (ast.List, ast.Dict)):
            if not is_reading_place(parent, node):
                self.tell("L15", file.name, node.lineno, f"{node.id} of module level is not only read")

    def module_value(self, file, name):
        if name in file.imports:
            other = self.files.get((file.imports[name] or "")[len(self.package) + 1:])
            return None if other is None else other.values.get(name)
        return file.values.get(name)

    # L4, L10, L15, L21, L28: functions.

    def check_function(self, file, node):
        if node.end_lineno - node.lineno + 1 > 40:
            self.tell("L10", file.name, node.lineno, f"{node.name} has more than 40 lines")
        if node.decorator_list:
            self.tell("L4", file.name, node.lineno, "a decorator")
        arguments = node.args
        if arguments.vararg or arguments.kwarg or arguments.kwonlyargs or arguments.posonlyargs:
            self.tell("L4", file.name, node.lineno, "a star or slash among the parameters")
        for default in arguments.defaults:
            if not is_plain_default(default):
                self.tell("L4", file.name, node.lineno, "a default value that is not plain")
        if node.returns or any(argument.annotation for argument in arguments.args):
            self.tell("L21", file.name, node.lineno, "an annotation")
        taken = {**file.imports, **file.classes}
        for name in sorted(bound_in(node)):
            if name in taken or hasattr(builtins, name):
                self.tell("L15", file.name, node.lineno, f"{name} is the name of a class, an import or a builtin")
        if not isinstance(file.parents[node], ast.ClassDef):
            if node.name in taken or hasattr(builtins, node.name):
                self.tell("L15", file.name, node.lineno, f"{node.name} is the name of a class, an import or a builtin")
            if node.name.startswith("__"):
                self.tell("L28", file.name, node.lineno, "a double-underscore function outside of a class")
        if node.name == "__init__":
            if any(isinstance(part, ast.Return) for part in ast.walk(node)):
                self.tell("L28", file.name, node.lineno, "__init__ returns")

    # L5, L18, L19: classes.

    def check_class(self, file, node):
        if not isinstance(file.parents[node], ast.Module):
            self.tell("L15", file.name, node.lineno, "a class that is not defined at module level")
        if node.decorator_list or node.keywords or len(node.bases) > 1:
            self.tell("L5", file.name, node.lineno, "a decorator, a keyword or several bases")
        for base in node.bases:
            own = isinstance(base, ast.Name) and isinstance(self.definition(file, base.id), ast.ClassDef)
            if not own and getattr(base, "id", "") not in ERRORS - {"AttributeError"}:
                self.tell("L5", file.name, node.lineno, "a base that is neither own nor an error class")
        methods = []
        for at, part in enumerate(node.body):
            if isinstance(part, ast.FunctionDef):
                methods.append(part.name)
                if part.name in OF_BUILTIN_VALUES - FREE_METHODS - {"__init__"}:
                    self.tell("L26", file.name, part.lineno, f"a method called {part.name}")
                if part.name in BUILTINS:
                    self.tell("L8", file.name, part.lineno, "a method with the name of a builtin")
                if not part.args.args:
                    self.tell("L5", file.name, part.lineno, "a method without its object")
            elif not (at == 0 and is_docstring(part)) and not isinstance(part, ast.Pass):
                self.tell("L5", file.name, part.lineno, "a class with more than methods")
        if len(set(methods)) != len(methods):
            self.tell("L18", file.name, node.lineno, "a method is defined twice")


def is_docstring(node):
    return isinstance(node, ast.Expr) and isinstance(node.value, ast.Constant) and isinstance(node.value.value, str)


def is_read(file, name):
    return any(isinstance(node, ast.Name) and node.id == name for node in ast.walk(file.tree))


def is_literal_exponent(node):
    return isinstance(node, ast.Constant) and isinstance(node.value, int) and 0 <= node.value <= 64


def is_plain_default(node):
    if isinstance(node, ast.Tuple):
        return all(is_plain_default(part) for part in node.elts)
    if isinstance(node, ast.UnaryOp):
        return isinstance(node.op, ast.USub) and isinstance(node.operand, ast.Constant)
    return isinstance(node, ast.Constant)


def enclosing_function(file, node):
    while node in file.parents:
        node = file.parents[node]
        if isinstance(node, ast.FunctionDef):
            return node
    return None


def bound_in(function):
    """The parameters and local variables of a function, those of its comprehensions among them."""
    names = {argument.arg for argument in function.args.args}
    for node in ast.walk(function):
        if isinstance(node, ast.Name) and isinstance(node.ctx, (ast.Store, ast.Del)):
            names.add(node.id)
        if isinstance(node, ast.FunctionDef) and node is not function:
            names.add(node.name)
        if isinstance(node, ast.ExceptHandler) and node.name:
            names.add(node.name)
    return names


def locals_around(file, node):
    names = set()
    around = enclosing_function(file, node)
    while around is not None:
        names |= bound_in(around)
        around = enclosing_function(file, around)
    return names


def iterated_parts(node):
    """What a loop over this goes over; a copy is nothing that could be modified."""
    if isinstance(node, ast.Call):
        if isinstance(node.func, ast.Name) and node.func.id in ("enumerate", "zip", "reversed"):
            return [part for argument in node.args for part in iterated_parts(argument)]
        if isinstance(node.func, ast.Attribute) and node.func.attr in ("items", "keys", "values"):
            return [node.func.value]
        return []
    if isinstance(node, ast.IfExp):
        return iterated_parts(node.body) + iterated_parts(node.orelse)
    if isinstance(node, ast.BoolOp):
        return [part for value in node.values for part in iterated_parts(value)]
    return [node] if isinstance(node, (ast.Name, ast.Attribute, ast.Subscript)) else []


def modified(node):
    """The text of what a node modifies, None if nothing."""
    if isinstance(node, ast.Call) and isinstance(node.func, ast.Attribute) and node.func.attr in MODIFYING:
        return ast.unparse(node.func.value)
    if isinstance(node, ast.Subscript) and isinstance(node.ctx, (ast.Store, ast.Del)):
        return ast.unparse(node.value)
    if isinstance(node, ast.AugAssign):
        return ast.unparse(node.target)
    return None


def is_set_place(file, node):
    parent = file.parents[node]
    if isinstance(parent, ast.Call) and isinstance(parent.func, ast.Name):
        return parent.func.id in ("sorted", "len") and not parent.keywords
    return isinstance(parent, ast.Compare) and isinstance(parent.ops[0], (ast.In, ast.NotIn))


def is_kind_place(file, node):
    """Whether a name stands as a kind in isinstance."""
    parent = file.parents[node]
    if isinstance(parent, ast.Tuple):
        parent = file.parents[parent]
    return isinstance(parent, ast.Call) and getattr(parent.func, "id", "") == "isinstance"


def is_reading_place(parent, node):
    if isinstance(parent, ast.Subscript):
        return parent.value is node and isinstance(parent.ctx, ast.Load)
    if isinstance(parent, ast.Compare):
        return True
    if isinstance(parent, (ast.For, ast.comprehension)):
        return parent.iter is node
    if isinstance(parent, ast.Call):
        return getattr(parent.func, "id", "") in ("len", "sorted", "list", "dict", "tuple", "sum", "min", "max")
    return isinstance(parent, ast.Attribute) and parent.attr in ("get", "items", "keys", "values", "index", "count")


def names_of(node):
    """The names that a node binds or uses, each with its sort."""
    if isinstance(node, ast.FunctionDef):
        return [(node.name, "function")]
    if isinstance(node, ast.ClassDef):
        return [(node.name, "class")]
    if isinstance(node, ast.arg):
        return [(node.arg, "parameter")]
    if isinstance(node, ast.keyword):
        return [(node.arg or "_", "keyword")]
    if isinstance(node, ast.Name) and isinstance(node.ctx, ast.Store):
        return [(node.id, "variable")]
    if isinstance(node, ast.ExceptHandler) and node.name:
        return [(node.name, "variable")]
    if isinstance(node, ast.alias):
        return [(node.asname or node.name, "variable")] if node.name != "*" else []
    if isinstance(node, ast.Attribute) and node.attr != "__init__":
        return [(node.attr, "attribute")]
    return []


def breaches(folder):
    """All breaches in the package in this folder."""
    package = os.path.basename(folder)
    found = []
    texts = {}
    strings = 0
    for name in sorted(os.listdir(folder)):
        path = os.path.join(folder, name)
        if name == "__pycache__":
            continue
        if os.path.isdir(path) or not name.endswith(".py"):
            found.append(("L1", name, "something else than a .py file"))
            continue
        with open(path, "rb") as source:
            data = source.read()
        if b"\r" in data or b"\t" in data or any(sign > 126 for sign in data):
            found.append(("L14", name, "a character other than those from the space to ~"))
        texts[name[:-3]] = data.decode("utf-8")
        strings += len(data)
    if "__init__" not in texts:
        found.append(("L14", folder, "no __init__.py"))
    if len(texts) > 100 or strings > 2000000 or package in sys.stdlib_module_names:
        found.append(("L14", folder, "too many files or strings, or the name of a module of the library"))
    return found + Checker(package, texts).found
