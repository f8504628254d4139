"""The rules of the language that the package keeps to, each as a function that gives back the faults it finds.

Where a rule leaves a choice that the package doesn't use (sets, annotations, lists at a file's top, recursion),
the function here is narrower than the rule and finds fault with any use.
"""

import ast
import builtins
import re

PACKAGE = "twoorders"

FUNCTIONS = set(
    "len range enumerate zip min max sum abs sorted reversed int str bool list tuple dict isinstance ord repr any all"
    " divmod".split())
PYTHON_ERRORS = set(
    "Exception ValueError TypeError KeyError IndexError LookupError ZeroDivisionError ArithmeticError OverflowError"
    " RuntimeError NotImplementedError AttributeError StopIteration".split())
ALLOWED_NAMES = FUNCTIONS | PYTHON_ERRORS | {"set", "frozenset"}
METHODS = set(
    "append clear copy count endswith extend find get index insert isalnum isalpha isdigit islower isspace isupper"
    " items join keys ljust lower lstrip partition pop remove replace reverse rfind rjust rpartition rsplit rstrip"
    " setdefault split splitlines startswith strip update upper values zfill bit_length".split())
CHANGING = set("append clear extend insert pop remove reverse setdefault update".split())
VALUES_LIKE_METHODS = set("count index title find get join lower upper split strip copy add".split())
TWO_UNDERSCORES = set("__init__ __eq__ __repr__ __str__ __len__".split())
WALKED_METHODS = set("items keys values".split())
WALKED_FUNCTIONS = set("zip enumerate reversed range".split())
WALKING = set("list tuple dict sorted sum any all enumerate zip".split())
KEYWORDS = {"sorted": ("key", "reverse"), "min": ("key", "default"), "max": ("key", "default"), "sum": ("start",),
            "enumerate": ("start",), "zip": ("strict",)}
KEY_FUNCTIONS = set("len int str abs sum min max tuple".split())
NEVER = set(
    "register mro elements open input version_info with_traceback add_note f_back f_code f_globals f_locals f_lineno"
    " f_builtins f_trace tb_next tb_frame tb_lineno tb_lasti co_names co_code co_consts co_varnames gi_frame"
    " cr_frame ag_frame".split())
NEVER_NAMES = set(
    "attrgetter breakpoint builtins compile copyright credits delattr dir eval exec exit gc getattr globals hasattr"
    " help id importlib license locals methodcaller os quit setattr super type vars sys __name__ chr".split())
NEVER_WORDS = re.compile(
    r"\b(type|typing|typing_extensions|enum|Enum|IntEnum|StrEnum|Flag|IntFlag|Generic|Protocol|ABC|ABCMeta"
    r"|namedtuple|NamedTuple|TypedDict|TYPE_CHECKING|abstractmethod)\b|dataclass|overload|contextmanager")
FILE_WORDS = set(
    "test tests testing site conftest sitecustomize usercustomize typing enum abc protocol generic flag".split())
STATEMENTS = (ast.Assign, ast.AugAssign, ast.If, ast.While, ast.For, ast.Return, ast.Break, ast.Continue, ast.Pass,
              ast.Raise, ast.Try, ast.Expr, ast.FunctionDef, ast.ClassDef, ast.ImportFrom)
EXPRESSIONS = (ast.Constant, ast.List, ast.Tuple, ast.Dict, ast.BinOp, ast.UnaryOp, ast.Compare, ast.BoolOp, ast.IfExp,
               ast.Call, ast.Attribute, ast.Subscript, ast.Slice, ast.ListComp, ast.JoinedStr, ast.FormattedValue,
               ast.Lambda, ast.Name)
OPERATORS = (ast.Add, ast.Sub, ast.Mult, ast.FloorDiv, ast.Mod, ast.Pow, ast.BitAnd, ast.BitOr, ast.BitXor, ast.LShift,
             ast.RShift)


class Source:
    """One file of the package: its name, its text, its tree, and each node's parent."""

    def __init__(self, name, text):
        self.name = name
        self.module = f"{PACKAGE}.{name[:-3]}"
        self.text = text
        self.tree = ast.parse(text)
        self.parents = {}
        for node in ast.walk(self.tree):
            for child in ast.iter_child_nodes(node):
                self.parents[child] = node

    def all(self, *kinds):
        return [node for node in ast.walk(self.tree) if isinstance(node, kinds)]

    def fault(self, node, words):
        return f"{self.name}:{getattr(node, 'lineno', 0)}: {words}"

    def top(self):
        """The statements of the file's top, without its docstring."""
        body = self.tree.body
        if body and isinstance(body[0], ast.Expr) and isinstance(body[0].value, ast.Constant):
            return body[1:]
        return body

    def top_names(self):
        found = []
        for node in self.top():
            if isinstance(node, (ast.FunctionDef, ast.ClassDef)):
                found.append(node.name)
            elif isinstance(node, ast.Assign):
                found.extend([target.id for target in node.targets if isinstance(target, ast.Name)])
            elif isinstance(node, ast.ImportFrom):
                found.extend([one.asname or one.name for one in node.names])
        return found

    def imported(self):
        return [one.asname or one.name for node in self.all(ast.ImportFrom) for one in node.names]

    def class_names(self):
        return [node.name for node in self.all(ast.ClassDef)]

    def inner_names(self):
        """Each parameter, and each name that is given a value in a function or a comprehension."""
        found = [(node, node.arg) for node in self.all(ast.arg)]
        at_top = [target for node in self.top() if isinstance(node, ast.Assign) for target in node.targets]
        for node in self.all(ast.Name):
            if isinstance(node.ctx, ast.Store) and node not in at_top:
                found.append((node, node.id))
        found.extend([(node, node.name) for node in self.all(ast.ExceptHandler) if node.name])
        return found


def package_of(texts):
    return [Source(name, texts[name]) for name in sorted(texts)]


def own_classes(package):
    return {name for source in package for name in source.class_names()}


def own_methods(package):
    return {part.name for source in package for node in source.all(ast.ClassDef) for part in node.body
            if isinstance(part, ast.FunctionDef)}


def own_values(package):
    return {node.attr for source in package for node in source.all(ast.Attribute) if isinstance(node.ctx, ast.Store)}


def is_called(source, node):
    parent = source.parents[node]
    return isinstance(parent, ast.Call) and parent.func is node


def is_plain(node):
    if isinstance(node, ast.UnaryOp) and isinstance(node.op, ast.USub):
        return is_plain(node.operand)
    if isinstance(node, ast.Tuple):
        return all([is_plain(part) for part in node.elts])
    return isinstance(node, ast.Constant)


def l1_files(package):
    return [f"{source.name}: no plain file name" for source in package
            if not re.fullmatch(r"(__init__|[a-z][a-z0-9_]*)\.py", source.name)]


def l2_imports(package):
    found = []
    for source in package:
        found.extend([source.fault(node, "import of a file") for node in source.all(ast.Import)])
        for node in source.all(ast.ImportFrom):
            if node.level or not (node.module or "").startswith(PACKAGE + "."):
                found.append(source.fault(node, "not the package's own, by its full name"))
            if "*" in [one.name for one in node.names] or "__main__" in (node.module or ""):
                found.append(source.fault(node, "import of all, or of __main__"))
        kinds = [isinstance(node, ast.ImportFrom) for node in source.top()]
        if kinds != sorted(kinds, reverse=True) or len(source.all(ast.ImportFrom)) != sum(kinds):
            found.append(f"{source.name}: an import that isn't at the top")
    return found


def l3_top(package):
    found = []
    for source in package:
        for node in source.top():
            if isinstance(node, ast.Assign):
                if not is_plain(node.value) or not isinstance(node.targets[0], ast.Name):
                    found.append(source.fault(node, "no plain value"))
            elif not isinstance(node, (ast.ImportFrom, ast.FunctionDef, ast.ClassDef)):
                found.append(source.fault(node, "something is done at the top"))
    return found


def l4_functions(package):
    found = []
    for source in package:
        for node in source.all(ast.arguments):
            if node.vararg or node.kwarg or node.kwonlyargs or node.posonlyargs:
                found.append(f"{source.name}: parameters that aren't plain")
            if not all([is_plain(one) for one in node.defaults]):
                found.append(f"{source.name}: a default that isn't plain")
        for node in source.all(ast.FunctionDef):
            if node.decorator_list:
                found.append(source.fault(node, "a decorator"))
    return found


def l5_classes(package):
    found = []
    for source in package:
        for node in source.all(ast.ClassDef):
            bases = [base.id if isinstance(base, ast.Name) else "" for base in node.bases]
            if len(bases) > 1 or node.keywords or node.decorator_list:
                found.append(source.fault(node, "more than one base, a keyword or a decorator"))
            if not set(bases) <= PYTHON_ERRORS | own_classes(package):
                found.append(source.fault(node, "a base that is neither the package's own nor an error class"))
            for part in node.body:
                if not isinstance(part, (ast.FunctionDef, ast.Pass)):
                    found.append(source.fault(part, "a class body with more than methods"))
                elif isinstance(part, ast.FunctionDef) and part.name.startswith("__"):
                    if part.name not in TWO_UNDERSCORES:
                        found.append(source.fault(part, "a method with two underscores"))
    return found


def l6_statements(package):
    found = []
    for source in package:
        for node in source.all(ast.stmt):
            first = node is source.tree.body[0] and node not in source.top()
            if not isinstance(node, STATEMENTS):
                found.append(source.fault(node, "a statement that is left out"))
            elif isinstance(node, ast.Expr) and not first and not isinstance(node.value, ast.Call):
                found.append(source.fault(node, "a value by itself"))
            elif isinstance(node, ast.Assign) and (len(node.targets) > 1 or isinstance(
                    node.targets[0], (ast.Tuple, ast.List, ast.Starred))):
                found.append(source.fault(node, "more than one target"))
            elif isinstance(node, (ast.For, ast.While)) and node.orelse:
                found.append(source.fault(node, "else behind a loop"))
            elif isinstance(node, ast.Try) and (node.finalbody or None in [one.type for one in node.handlers]):
                found.append(source.fault(node, "finally, or except without a name"))
    return found


def l7_expressions(package):
    found = []
    for source in package:
        for node in source.all(ast.expr):
            if not isinstance(node, EXPRESSIONS):
                found.append(source.fault(node, "an expression that is left out"))
            elif isinstance(node, ast.Constant) and not isinstance(node.value, (int, str, type(None))):
                found.append(source.fault(node, "a value that is left out"))
            elif isinstance(node, ast.ListComp) and (len(node.generators) > 1 or len(node.generators[0].ifs) > 1):
                found.append(source.fault(node, "more than one for or if in a comprehension"))
            elif isinstance(node, ast.FormattedValue) and (
                    not isinstance(node.value, ast.Name) or node.conversion not in (-1, ord("r")) or node.format_spec):
                found.append(source.fault(node, "more than a name in an f-string"))
        for node in source.all(ast.operator):
            if not isinstance(node, OPERATORS):
                found.append(f"{source.name}: an operator that is left out")
    return found


def l8_names(package):
    found = []
    for source in package:
        own = set(source.top_names()) | {name for node, name in source.inner_names()}
        own.update([node.name for node in source.all(ast.FunctionDef)])
        for node in source.all(ast.Name):
            if node.id not in own and node.id not in ALLOWED_NAMES:
                found.append(source.fault(node, f"the name {node.id}"))
        for name in own & ALLOWED_NAMES:
            found.append(f"{source.name}: {name} has another meaning")
        for node in source.all(ast.Attribute):
            if node.attr in ("format", "format_map", "mro"):
                found.append(source.fault(node, node.attr))
    return found


def l9_input_and_output(package):
    return [source.fault(node, f"the name {node.id}") for source in package for node in source.all(ast.Name)
            if node.id in ("print", "sys", "input", "open")]


def l10_size(package):
    found = []
    for source in package:
        lines = source.text.split("\n")
        if len(lines) > 400:
            found.append(f"{source.name}: more than 400 lines")
        found.extend([f"{source.name}: a long line" for line in lines if len(line) > 120])
        if "\t" in source.text:
            found.append(f"{source.name}: a tab")
        for node in source.all(ast.FunctionDef):
            if node.end_lineno - node.lineno + 1 > 40:
                found.append(source.fault(node, "a function of more than 40 lines"))
    return found


def called_names(node):
    names = [call.func for call in ast.walk(node) if isinstance(call, ast.Call)]
    return {one.id if isinstance(one, ast.Name) else getattr(one, "attr", "") for one in names}


def in_a_circle(steps):
    """The names from which a walk along the steps leads back to them."""
    found = []
    for start in sorted(steps):
        seen = set()
        waiting = list(steps[start])
        while waiting:
            name = waiting.pop()
            if name not in seen:
                seen.add(name)
                waiting.extend(steps.get(name, []))
        if start in seen:
            found.append(start)
    return found


def l11_the_same_on_both(package):
    found = [source.fault(node, "an error that is looked at") for source in package
             for node in source.all(ast.ExceptHandler) if node.name]
    steps = {}
    for source in package:
        for node in source.all(ast.FunctionDef):
            if not node.name.startswith("__"):
                steps.setdefault(node.name, set()).update(called_names(node))
    found.extend([f"{name} calls itself" for name in in_a_circle(steps)])
    return found


def l12_plain_names(package):
    found = []
    for source in package:
        names = source.top_names() + [name for node, name in source.inner_names()]
        names.extend([node.attr for node in source.all(ast.Attribute)])
        names.extend([node.name for node in source.all(ast.FunctionDef) if node.name not in TWO_UNDERSCORES])
        for name in names:
            if not re.fullmatch(r"[A-Za-z][A-Za-z0-9_]*", name) and name != "__init__":
                found.append(f"{source.name}: the name {name}")
    return found


def l13_two_forms(package):
    found = [source.fault(node, "a set written out") for source in package for node in source.all(ast.Set)]
    for source in package:
        seen = {}
        for node in source.all(ast.Lambda):
            mark = (node.lineno, ast.dump(node.args))
            if mark in seen:
                found.append(source.fault(node, "two lambdas on one line"))
            seen[mark] = True
    return found


def l14_files_and_signs(package):
    found = []
    if "__init__.py" not in [source.name for source in package]:
        found.append("no __init__.py")
    for source in package:
        plain = source.name[:-3]
        if plain in FILE_WORDS or plain.startswith("test_") or plain in dir(builtins):
            found.append(f"{source.name}: a file's name that is left out")
        if not re.fullmatch(r"[ -~\n]*", source.text):
            found.append(f"{source.name}: a sign that is left out")
    return found


def l15_each_name_once(package):
    found = []
    for source in package:
        names = source.top_names()
        found.extend([f"{source.name}: {name} is bound twice" for name in set(names) if names.count(name) > 1])
        for node in source.all(ast.ClassDef):
            if node not in source.tree.body:
                found.append(source.fault(node, "a class that isn't at the top"))
        taken = set(source.class_names()) | set(source.imported()) | set(dir(builtins))
        found.extend([source.fault(node, f"the local name {name}") for node, name in source.inner_names()
                      if name in taken])
    return found


def l16_imports(package):
    found = []
    files = {source.module: source for source in package}
    steps = {}
    for source in package:
        steps[source.module] = [node.module for node in source.all(ast.ImportFrom)]
        for node in source.all(ast.ImportFrom):
            defining = files.get(node.module)
            for one in node.names:
                if not defining or one.name not in defining.top_names() or one.name in defining.imported():
                    found.append(source.fault(node, f"{one.name} is not from the file that defines it"))
        if source.name == "__init__.py" and source.top():
            found.append("__init__.py binds a name")
    found.extend([f"{name} draws from itself" for name in in_a_circle(steps)])
    return found


def l17_names_not_used(package):
    found = []
    for source in package:
        names = source.top_names() + [name for node, name in source.inner_names()]
        names.extend([node.id for node in source.all(ast.Name)])
        names.extend([node.name for node in source.all(ast.FunctionDef)])
        anywhere = names + [node.attr for node in source.all(ast.Attribute)]
        found.extend([f"{source.name}: the name {name}" for name in names if name in NEVER_NAMES])
        found.extend([f"{source.name}: the name {name}" for name in anywhere if name in NEVER])
        found.extend([f"{source.name}: the word {one.group()}" for one in NEVER_WORDS.finditer(source.text)])
    return found


def is_use_of_a_class(source, node):
    parent = source.parents[node]
    if isinstance(parent, ast.Tuple):
        node, parent = parent, source.parents[parent]
    if isinstance(parent, ast.Call):
        by_isinstance = isinstance(parent.func, ast.Name) and parent.func.id == "isinstance" and node in parent.args[1:]
        return parent.func is node or by_isinstance
    return isinstance(parent, (ast.ClassDef, ast.ExceptHandler))


def is_base_init(source, node):
    parent = source.parents[node]
    return isinstance(parent, ast.Attribute) and parent.attr == "__init__" and is_called(source, parent)


def l18_classes(package):
    found = []
    classes = own_classes(package)
    both = own_methods(package) & own_values(package)
    found.extend([f"{name} is a method and a value" for name in sorted(both)])
    for source in package:
        for node in source.all(ast.Name):
            if node.id in classes and not is_use_of_a_class(source, node) and not is_base_init(source, node):
                found.append(source.fault(node, f"the class {node.id} is handed on"))
        for node in source.all(ast.ClassDef):
            names = [part.name for part in node.body if isinstance(part, ast.FunctionDef)]
            if len(set(names)) != len(names):
                found.append(source.fault(node, "a method stands twice"))
            if {"StopIteration", "AttributeError"} & {getattr(base, "id", "") for base in node.bases}:
                found.append(source.fault(node, "an error class under an unwanted one"))
        for node in source.all(ast.Attribute):
            if isinstance(node.ctx, ast.Store) and isinstance(node.value, ast.Name):
                if node.value.id in source.top_names():
                    found.append(source.fault(node, "a value is given to a name of the top"))
    return found


def l19_errors(package):
    found = []
    taken = own_classes(package) | {"KeyError", "ZeroDivisionError", "StopIteration"}
    for source in package:
        for node in source.all(ast.ExceptHandler):
            kinds = node.type.elts if isinstance(node.type, ast.Tuple) else [node.type]
            if not {getattr(kind, "id", "") for kind in kinds} <= taken:
                found.append(source.fault(node, "an error that isn't taken by this name"))
        for node in source.all(ast.Raise):
            made = node.exc.func if isinstance(node.exc, ast.Call) else None
            if getattr(made, "id", "") not in own_classes(package) or node.cause:
                found.append(source.fault(node, "an error that isn't the package's own, made on the spot"))
    return found


def l20_is(package):
    found = []
    for source in package:
        for node in source.all(ast.Compare):
            sides = [node.left] + node.comparators
            for place, operator in enumerate(node.ops):
                known = [getattr(side, "value", 0) for side in sides[place:place + 2] if isinstance(side, ast.Constant)]
                if isinstance(operator, (ast.Is, ast.IsNot)) and not [one for one in known if one in (None, True, False)
                                                                      and not isinstance(one, str)]:
                    found.append(source.fault(node, "is beside another value"))
    return found


def l21_annotations(package):
    found = [source.fault(node, "an annotation") for source in package for node in source.all(ast.arg)
             if node.annotation]
    found.extend([source.fault(node, "an annotation") for source in package for node in source.all(ast.FunctionDef)
                  if node.returns])
    found.extend([source.fault(node, "an annotation") for source in package for node in source.all(ast.AnnAssign)])
    return found


def is_key(source, node):
    parent = source.parents[node]
    return isinstance(parent, ast.keyword) and parent.arg == "key" and node.id in KEY_FUNCTIONS


def l22_pythons_own(package):
    found = []
    for source in package:
        for node in source.all(ast.Name):
            if node.id in FUNCTIONS and not is_called(source, node) and not is_key(source, node):
                if not is_use_of_a_class(source, node):
                    found.append(source.fault(node, f"{node.id} is not called"))
        for node in source.all(ast.Call):
            name = getattr(node.func, "id", getattr(node.func, "attr", ""))
            python = name in ALLOWED_NAMES or isinstance(node.func, ast.Attribute) and name in METHODS
            for word in node.keywords:
                written = word.arg not in ("reverse", "strict") or isinstance(word.value, ast.Constant)
                if python and (word.arg not in KEYWORDS.get(name, ()) or not written):
                    found.append(source.fault(node, f"the keyword {word.arg} at {name}"))
    return found


def walked_on_the_spot(source, node):
    parent = source.parents[node]
    if isinstance(parent, (ast.For, ast.comprehension)):
        return parent.iter is node
    if isinstance(parent, ast.Call) and isinstance(parent.func, ast.Name):
        return parent.func.id in WALKING and parent.args[0] is node or (
            parent.func.id in ("min", "max") and parent.args == [node])
    return isinstance(parent, ast.Call) and getattr(parent.func, "attr", "") == "join" and isinstance(
        parent.func.value, ast.Constant)


def walked_things(node):
    """What a loop walks, itself or through enumerate, zip, reversed, items."""
    if isinstance(node, ast.Call) and getattr(node.func, "id", "") in ("enumerate", "zip", "reversed"):
        return [ast.dump(part) for one in node.args for part in [one]]
    if isinstance(node, ast.Call) and getattr(node.func, "attr", "") in WALKED_METHODS:
        return [ast.dump(node.func.value)]
    return [ast.dump(node)]


def changed_things(node):
    found = []
    for part in ast.walk(node):
        if isinstance(part, ast.Call) and getattr(part.func, "attr", "") in CHANGING:
            found.append(ast.dump(part.func.value))
        elif isinstance(part, ast.Subscript) and isinstance(part.ctx, ast.Store):
            found.append(ast.dump(part.value))
        elif isinstance(part, ast.AugAssign):
            found.append(ast.dump(part.target).replace("Store()", "Load()"))
    return found


def l23_walked_at_once(package):
    found = []
    for source in package:
        for node in source.all(ast.Call):
            by_name = isinstance(node.func, ast.Name) and node.func.id in WALKED_FUNCTIONS
            by_method = isinstance(node.func, ast.Attribute) and node.func.attr in WALKED_METHODS
            if (by_name or by_method) and not walked_on_the_spot(source, node):
                found.append(source.fault(node, "kept, not walked"))
        for node in source.all(ast.For):
            changed = [one for part in node.body for one in changed_things(part)]
            if set(changed) & set(walked_things(node.iter)):
                found.append(source.fault(node, "what is walked is changed"))
    return found


def l24_sets(package):
    found = [source.fault(node, "a set") for source in package for node in source.all(ast.Set)]
    found.extend([source.fault(node, "a set") for source in package for node in source.all(ast.Name)
                  if node.id in ("set", "frozenset")])
    return found


def l25_methods(package):
    found = []
    methods = own_methods(package)
    known = methods | own_values(package) | METHODS
    for source in package:
        for node in source.all(ast.Attribute):
            if node.attr not in known:
                found.append(source.fault(node, f"the method or value {node.attr}"))
            elif node.attr in methods | METHODS and not is_called(source, node):
                found.append(source.fault(node, f"the method {node.attr} is not called"))
    return found


def l26_own_methods_and_values(package):
    found = []
    python = {name for kind in (str, int, list, dict, set, bytes, tuple) for name in dir(kind)}
    for name in sorted(own_methods(package) - TWO_UNDERSCORES):
        if name in python - METHODS - {"add", "discard"}:
            found.append(f"the method {name}")
    for name in sorted(own_values(package)):
        if name in (python | {"args"}) - VALUES_LIKE_METHODS:
            found.append(f"the value {name}")
    return found


def l27_numbers_and_texts(package):
    found = []
    for source in package:
        for node in source.all(ast.BinOp, ast.AugAssign):
            power = node.right if isinstance(node, ast.BinOp) else node.value
            if isinstance(node.op, ast.Pow) and getattr(power, "value", -1) not in range(65):
                found.append(source.fault(node, "a power without a written exponent of 0 to 64"))
        for node in source.all(ast.Constant):
            if isinstance(node.value, str) and chr(37) in node.value:
                found.append(source.fault(node, "a percent sign in a text"))
            if isinstance(node.value, int) and abs(node.value) >= 10 ** 900:
                found.append(source.fault(node, "a number of more than 900 digits"))
        found.extend([source.fault(node, "chr") for node in source.all(ast.Name) if node.id == "chr"])
        if re.search(r"\\[^nt\\'\"]", source.text.replace("\\\\", "")):
            found.append(f"{source.name}: an escape that is left out")
    return found


def l28_two_underscores(package):
    found = []
    for source in package:
        for node in source.all(ast.FunctionDef):
            if node.name in TWO_UNDERSCORES - {"__init__"}:
                found.append(source.fault(node, node.name))
            elif node.name == "__init__":
                found.extend([source.fault(part, "__init__ gives something back") for part in ast.walk(node)
                              if isinstance(part, ast.Return) and part.value])
    return found


RULES = (
    l1_files, l2_imports, l3_top, l4_functions, l5_classes, l6_statements, l7_expressions, l8_names,
    l9_input_and_output, l10_size, l11_the_same_on_both, l12_plain_names, l13_two_forms, l14_files_and_signs,
    l15_each_name_once, l16_imports, l17_names_not_used, l18_classes, l19_errors, l20_is, l21_annotations,
    l22_pythons_own, l23_walked_at_once, l24_sets, l25_methods, l26_own_methods_and_values, l27_numbers_and_texts,
    l28_two_underscores)
