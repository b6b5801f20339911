"""Reads the files of the package for what breaks a rule of LANGUAGE.md.

It allows less than the rules do: what the package has no need of is refused here, too. So what it finds
nothing in keeps the rules that it reads, and a rule that the package begins to make use of is added first.
"""

import ast
import builtins
import io
import re
import tokenize

STATEMENTS = (
    ast.FunctionDef, ast.ClassDef, ast.Return, ast.Delete, ast.Assign, ast.AugAssign, ast.For, ast.While, ast.If,
    ast.Raise, ast.Try, ast.Assert, ast.ImportFrom, ast.Expr, ast.Pass, ast.Break, ast.Continue,
)
EXPRESSIONS = (
    ast.BoolOp, ast.BinOp, ast.UnaryOp, ast.Lambda, ast.IfExp, ast.Dict, ast.Set, ast.ListComp, ast.SetComp,
    ast.DictComp, ast.GeneratorExp, ast.Compare, ast.Call, ast.FormattedValue, ast.JoinedStr, ast.Constant,
    ast.Attribute, ast.Subscript, ast.Starred, ast.Name, ast.List, ast.Tuple, ast.Slice,
)
# An interactive session, and doctest as well, binds the underscore there.
BUILTINS = set(dir(builtins)) - {"_"}
FLOAT_SIGNS = (ast.Div, ast.MatMult)

FUNCTIONS = set(
    "len range enumerate zip min max sum abs sorted reversed int str bool list tuple dict set isinstance ord repr"
    " any all divmod".split()
)
ERRORS = set("Exception ValueError TypeError KeyError IndexError LookupError ZeroDivisionError".split())
CAUGHT = {"KeyError", "ZeroDivisionError"}
KINDS = set("int str bool bytes list tuple dict".split())
KEYWORDS = {"sorted": {"key", "reverse"}, "min": {"key", "default"}, "max": {"key", "default"},
            "sum": {"start"}, "enumerate": {"start"}, "zip": {"strict"}}
AS_KEY = set("len int str abs sum min max tuple".split())
CONSUMERS = set("list tuple dict sorted sum min max any all".split())
KEPT_FROM = set("zip enumerate reversed range".split())
VIEWS = {"items", "keys", "values"}
CHANGING = set("append clear extend insert pop remove reverse setdefault update sort add discard".split())
METHODS = set(
    "append clear copy count endswith extend find get index insert isalnum isalpha isdigit islower isspace isupper"
    " items join keys ljust lower lstrip partition pop remove replace reverse rfind rjust rpartition rsplit rstrip"
    " setdefault split splitlines startswith strip update upper values zfill bit_length add discard".split()
)
NOT_ATTRIBUTES = set(
    "items keys values pop update append clear extend insert remove reverse setdefault sort args encode decode hex"
    " fromhex format format_map mro as_integer_ratio bit_count conjugate from_bytes is_integer to_bytes".split()
)
NOT_METHODS = set(
    "args encode decode hex fromhex format format_map mro as_integer_ratio bit_count conjugate from_bytes is_integer"
    " to_bytes sort".split()
)
NOWHERE = set(
    "register mro elements open input law version_info with_traceback add_note f_back tb_next co_names".split()
)
NOT_NAMES = set(
    "attrgetter breakpoint builtins compile copyright credits delattr dir eval exec exit gc getattr globals hasattr"
    " help id importlib license locals methodcaller os quit setattr super type vars sys".split()
)
WORDS = set(
    "type typing typing_extensions enum Enum IntEnum StrEnum Flag IntFlag Generic Protocol ABC ABCMeta namedtuple"
    " NamedTuple TypedDict TYPE_CHECKING abstractmethod".split()
)
INNER_WORDS = re.compile("dataclass|overload|contextmanager")
BARRED_STARTS = re.compile("_wall|_pe_|_dcw_|_enum_|_cm_|_twin_re_|_lay_|_law_|_stub_|_sre|_WallAttr")
PLAIN_NAME = re.compile("_|_?[A-Za-z][A-Za-z0-9_]*")
FORMAT = re.compile(r"(.?[<>=^])?[-+ ]?#?0?\d{0,2}[,_]?(\.\d{1,2})?[dsxXob]?")
FILE_NAME = re.compile(r"(__init__|[a-z][a-z0-9_]*)\.py")


def package_faults(texts):
    """The broken rules (rule, module, line) of a package: a dict from the names of its modules to their texts."""
    trees = {module: parsed(text) for module, text in texts.items()}
    own = set()
    for tree in trees.values():
        own |= words_of_classes(tree)
    found = []
    for module, tree in trees.items():
        for rule, line in characters(texts[module]) + tokens(texts[module], tree) + nodes(tree, own):
            found.append((rule, module, line))
        for rule, line in imports(module, trees):
            found.append((rule, module, line))
    for module, tree in trees.items():
        for line in methods_assigned(tree, trees):
            found.append(("L18", module, line))
    return sorted(set(found))


def methods_assigned(tree, trees):
    """The lines in which an attribute is assigned that has the name of a method of some class of the package."""
    methods = {node.name for other in trees.values() for node in ast.walk(other)
               if isinstance(node, ast.FunctionDef) and isinstance(node.above, ast.ClassDef)}
    return [node.lineno for node in ast.walk(tree)
            if isinstance(node, ast.Attribute) and isinstance(node.ctx, ast.Store) and node.attr in methods]


def parsed(text):
    """The tree of a text, in which each node knows the one above it."""
    tree = ast.parse(text)
    tree.above = None
    for node in ast.walk(tree):
        for inner in ast.iter_child_nodes(node):
            inner.above = node
    return tree


def words_of_classes(tree):
    """The methods of the classes of a file, and the attributes that it assigns."""
    words = set()
    for node in ast.walk(tree):
        if isinstance(node, ast.FunctionDef) and isinstance(node.above, ast.ClassDef):
            words.add(node.name)
        if isinstance(node, ast.Attribute) and isinstance(node.ctx, ast.Store):
            words.add(node.attr)
    return words


def characters(text):
    found = []
    lines = text.splitlines()
    if len(lines) > 399:
        found.append(("L10", 400))
    for at, line in enumerate(lines, 1):
        if len(line) > 120:
            found.append(("L10", at))
        if not all(" " <= mark <= "~" for mark in line):
            found.append(("L14", at))
        if re.search("_wall|_WallAttr", line):
            found.append(("L12", at))
    return found


def docstring_lines(tree):
    lines = set()
    for node in ast.walk(tree):
        if is_docstring(node):
            lines |= set(range(node.lineno, node.end_lineno + 1))
    return lines


def is_docstring(node):
    if not isinstance(node, ast.Expr) or not isinstance(node.value, ast.Constant):
        return False
    above = node.above
    return (
        isinstance(node.value.value, str)
        and isinstance(above, (ast.Module, ast.ClassDef, ast.FunctionDef))
        and above.body[0] is node
    )


def tokens(text, tree):
    """What the signs of a text break: how strings are written, and words that do not occur."""
    found = []
    calm = docstring_lines(tree)
    for token in tokenize.generate_tokens(io.StringIO(text).readline):
        line = token.start[0]
        name = tokenize.tok_name[token.type]
        if name == "NAME" and (token.string in WORDS or INNER_WORDS.search(token.string)):
            found.append(("L17", line))
        if name not in ("STRING", "FSTRING_MIDDLE", "FSTRING_START"):
            continue
        if chr(37) in token.string:
            found.append(("L27", line))
        if not set(re.findall(r"\\(.)", token.string, re.DOTALL)) <= set("nt\\'\""):
            found.append(("L27", line))
        if name != "FSTRING_MIDDLE" and re.match("[a-zA-Z]*", token.string).group() not in ("", "f"):
            found.append(("L7", line))
        if line not in calm:
            words = set(re.findall("[A-Za-z_0-9]+", token.string)) - {"type"}
            if words & WORDS or INNER_WORDS.search(token.string):
                found.append(("L17", line))
    return found


def nodes(tree, own):
    found = []
    bound = bound_names(tree)
    classes = {node.name for node in ast.walk(tree) if isinstance(node, ast.ClassDef)}
    for node in ast.walk(tree):
        for rule in (
            rules_of_kind(node)
            + rules_of_names(node, own)
            + rules_of_values(node, bound, classes)
            + rules_of_calls(node)
            + rules_of_loops(node)
            + rules_of_errors(node)
        ):
            found.append((rule, getattr(node, "lineno", 1)))
    return found + module_level(tree) + bound_twice(tree)


def bound_names(tree):
    names = set()
    for node in ast.walk(tree):
        names |= set(names_bound_by(node))
    return names


def names_bound_by(node):
    """The names that a node gives a meaning (methods and attributes are none)."""
    if isinstance(node, ast.Name) and not isinstance(node.ctx, ast.Load):
        return [node.id]
    if isinstance(node, ast.arg):
        return [node.arg]
    if isinstance(node, ast.FunctionDef) and not isinstance(node.above, ast.ClassDef):
        return [node.name]
    if isinstance(node, ast.ClassDef):
        return [node.name]
    if isinstance(node, ast.alias):
        return [node.asname or node.name]
    if isinstance(node, ast.ExceptHandler) and node.name:
        return [node.name]
    return []


def rules_of_kind(node):
    """Statements, expressions and plain values that are not used at all."""
    broken = []
    if isinstance(node, ast.stmt) and not isinstance(node, STATEMENTS):
        broken.append("L6")
    if isinstance(node, ast.expr) and not isinstance(node, EXPRESSIONS):
        broken.append("L7")
    if isinstance(node, FLOAT_SIGNS):
        broken.append("L7")
    if isinstance(node, ast.Constant):
        broken += rules_of_constant(node)
    if isinstance(node, ast.Expr) and not isinstance(node.value, ast.Call) and not is_docstring(node):
        broken.append("L6")
    if isinstance(node, ast.FunctionDef):
        broken += rules_of_function(node)
    if isinstance(node, ast.ClassDef):
        broken += rules_of_class(node)
    if isinstance(node, ast.Lambda) and (node.args.vararg or node.args.kwarg or node.args.defaults):
        broken.append("L4")
    if isinstance(node, ast.Starred) and not isinstance(node.ctx, ast.Store):
        broken.append("L7")
    if isinstance(node, ast.BinOp) and isinstance(node.op, ast.Pow):
        power = node.right
        if not isinstance(power, ast.Constant) or power.value not in range(65):
            broken.append("L27")
    if isinstance(node, ast.FormattedValue):
        form = ast.unparse(ast.JoinedStr([node.format_spec]))[2:-1] if node.format_spec else ""
        if node.conversion not in (-1, ord("r"), ord("s")) or not FORMAT.fullmatch(form):
            broken.append("L7")
    return broken


def rules_of_constant(node):
    value = node.value
    if not isinstance(value, (int, str)) and value is not None:
        return ["L7"]
    if isinstance(value, int) and value >= 10 ** 900:
        return ["L27"]
    if isinstance(value, str) and re.search(r"\.__?$|^__.*__$|[{.]\S*\b__", value):
        return ["L27"]
    return []


def rules_of_function(node):
    broken = []
    if node.end_lineno - node.lineno + 1 > 40:
        broken.append("L10")
    if node.decorator_list or node.returns:
        broken.append("L4")
    given = node.args
    if given.vararg or given.kwarg or given.posonlyargs or given.kwonlyargs:
        broken.append("L4")
    if any(inner.annotation for inner in given.args):
        broken.append("L21")
    if not all(is_plain(value) for value in given.defaults):
        broken.append("L4")
    if isinstance(node.above, ast.ClassDef) and (not given.args or given.args[0].arg != "self"):
        broken.append("L5")
    if node.name == "__init__" and any(isinstance(inner, ast.Return) and inner.value for inner in ast.walk(node)):
        broken.append("L28")
    return broken


def is_plain(node):
    if isinstance(node, ast.UnaryOp):
        return isinstance(node.op, ast.USub) and is_plain(node.operand)
    if isinstance(node, ast.Tuple):
        return all(is_plain(inner) for inner in node.elts)
    return isinstance(node, ast.Constant)


def rules_of_class(node):
    broken = []
    if node.decorator_list or node.keywords or not all(isinstance(base, ast.Name) for base in node.bases):
        broken.append("L5")
    if not isinstance(node.above, ast.Module):
        broken.append("L15")
    if not all(isinstance(inner, ast.FunctionDef) or is_docstring(inner) for inner in node.body):
        broken.append("L5")
    methods = [inner.name for inner in node.body if isinstance(inner, ast.FunctionDef)]
    if len(set(methods)) < len(methods):
        broken.append("L18")
    stored = {inner.attr for inner in ast.walk(node)
              if isinstance(inner, ast.Attribute) and isinstance(inner.ctx, ast.Store)}
    if stored & set(methods):
        broken.append("L18")
    return broken


def rules_of_names(node, own):
    """How a name is written, and which names are not used."""
    broken = []
    for name in names_bound_by(node):
        if name in NOWHERE or name in NOT_NAMES:
            broken.append("L17")
        if name in BUILTINS:
            broken.append("L15")
        if not PLAIN_NAME.fullmatch(name) or BARRED_STARTS.match(name):
            broken.append("L12")
    if isinstance(node, ast.FunctionDef) and isinstance(node.above, ast.ClassDef):
        broken += rules_of_method_name(node.name)
    if isinstance(node, ast.Attribute):
        broken += rules_of_attribute(node, own)
    if isinstance(node, ast.keyword) and (node.arg is None or node.arg in NOWHERE or node.arg == "self"):
        broken.append("L22")
    return broken


def rules_of_method_name(name):
    if name == "__init__":
        return []
    if not PLAIN_NAME.fullmatch(name) or name == "_":
        return ["L12"]
    if name in NOT_METHODS:
        return ["L26"]
    if name in NOWHERE | NOT_NAMES | FUNCTIONS | ERRORS:
        return ["L17"]
    return []


def rules_of_attribute(node, own):
    broken = []
    if isinstance(node.ctx, ast.Load):
        if node.attr not in METHODS and node.attr not in own and node.attr != "__init__":
            broken.append("L25")
        if node.attr in METHODS and node.attr not in own and not is_called(node):
            broken.append("L25")
    else:
        if node.attr in NOT_ATTRIBUTES or node.attr in NOWHERE or not PLAIN_NAME.fullmatch(node.attr):
            broken.append("L26")
        if isinstance(node.ctx, ast.Del) or not isinstance(node.value, ast.Name):
            broken.append("L18")
    return broken


def is_called(node):
    return isinstance(node.above, ast.Call) and node.above.func is node


def rules_of_values(node, bound, classes):
    """Builtins, classes and the underscore: where their names stand."""
    if not isinstance(node, ast.Name) or not isinstance(node.ctx, ast.Load):
        return []
    if node.id == "_":
        return ["L12"]
    if node.id in classes or node.id[0].isupper() and not node.id.isupper() or node.id in ERRORS:
        return [] if node.id in bound | ERRORS and class_stands_well(node) else ["L18"]
    if node.id in bound:
        return []
    if node.id not in FUNCTIONS and node.id != "bytes":
        return ["L8"]
    return [] if builtin_stands_well(node) else ["L22"]


def class_stands_well(node):
    above = node.above
    if isinstance(above, ast.Tuple):
        above = above.above
    return is_called(node) or isinstance(above, (ast.ClassDef, ast.ExceptHandler)) or is_kind_asked(node, above)


def builtin_stands_well(node):
    above = node.above
    if is_called(node):
        return node.id != "bytes"
    if isinstance(above, ast.keyword):
        return above.arg == "key" and node.id in AS_KEY
    if isinstance(above, ast.Tuple):
        above = above.above
    return node.id in KINDS and is_kind_asked(node, above)


def is_kind_asked(node, above):
    if not isinstance(above, ast.Call) or getattr(above.func, "id", "") != "isinstance" or len(above.args) != 2:
        return False
    return node is not above.args[0] and node is not above.func


def rules_of_calls(node):
    """Keywords, `is`, sets, generator expressions, and what is iterated on the spot."""
    broken = []
    if isinstance(node, ast.Call):
        name = getattr(node.func, "id", "")
        given = {inner.arg for inner in node.keywords}
        if name in FUNCTIONS | ERRORS and not given <= KEYWORDS.get(name, set()):
            broken.append("L22")
        if isinstance(node.func, ast.Attribute) and node.func.attr in METHODS and given:
            broken.append("L22")
        if isinstance(node.func, (ast.Constant, ast.Lambda)):
            broken.append("L7")
        if name in KEPT_FROM or getattr(node.func, "attr", "") in VIEWS:
            if not is_iterated_at_once(node):
                broken.append("L23")
    if isinstance(node, ast.Compare):
        for sign, right in zip(node.ops, node.comparators):
            if isinstance(sign, (ast.Is, ast.IsNot)) and not is_one_of_three(right):
                broken.append("L20")
    if isinstance(node, ast.GeneratorExp) and not is_taken_at_once(node):
        broken.append("L7")
    if is_set(node) and not set_stands_well(node):
        broken.append("L24")
    return broken


def is_one_of_three(node):
    return isinstance(node, ast.Constant) and node.value in (None, True, False)


def is_iterated_at_once(node):
    above = node.above
    if isinstance(above, ast.For):
        return above.iter is node
    if isinstance(above, ast.comprehension):
        return above.iter is node and not isinstance(above.above, ast.GeneratorExp)
    if not isinstance(above, ast.Call) or above.args[:1] != [node] and getattr(above.func, "id", "") != "zip":
        return False
    return getattr(above.func, "id", "") in CONSUMERS | {"enumerate", "zip"}


def is_taken_at_once(node):
    above = node.above
    if not isinstance(above, ast.Call) or above.args[0] is not node:
        return False
    if not all(isinstance(inner, (ast.Name, ast.Constant)) for inner in above.args[1:]):
        return False
    if isinstance(above.func, ast.Attribute):
        return above.func.attr == "join" and isinstance(above.func.value, ast.Constant)
    return above.func.id in CONSUMERS and not any(inner.arg == "key" for inner in above.keywords)


def is_set(node):
    if isinstance(node, ast.Call):
        return getattr(node.func, "id", "") in ("set", "frozenset")
    return isinstance(node, (ast.Set, ast.SetComp))


def set_stands_well(node):
    above = node.above
    if isinstance(above, ast.Call):
        return getattr(above.func, "id", "") in ("sorted", "len") and not above.keywords
    if isinstance(above, ast.Compare):
        return above.left is not node and all(isinstance(sign, (ast.In, ast.NotIn)) for sign in above.ops)
    return False


def rules_of_loops(node):
    """What a loop goes over is not changed in it."""
    if not isinstance(node, ast.For):
        return []
    held = {ast.dump(inner) for inner in gone_over(node.iter)}
    for inner in ast.walk(ast.Module(body=node.body, type_ignores=[])):
        if isinstance(inner, ast.Call) and isinstance(inner.func, ast.Attribute) and inner.func.attr in CHANGING:
            if ast.dump(inner.func.value) in held:
                return ["L23"]
        if isinstance(inner, ast.Subscript) and not isinstance(inner.ctx, ast.Load):
            if ast.dump(inner.value) in held:
                return ["L23"]
    return []


def gone_over(node):
    if isinstance(node, ast.Call) and isinstance(node.func, ast.Attribute) and node.func.attr in VIEWS:
        return [node.func.value]
    if isinstance(node, ast.Call) and getattr(node.func, "id", "") in KEPT_FROM - {"range"}:
        return [one for inner in node.args for one in gone_over(inner)]
    return [node]


def rules_of_errors(node):
    if isinstance(node, ast.Try) and node.finalbody:
        return ["L6"]
    if isinstance(node, ast.ExceptHandler):
        kinds = node.type.elts if isinstance(node.type, ast.Tuple) else [node.type]
        good = all(isinstance(kind, ast.Name) and kind.id not in ERRORS - CAUGHT for kind in kinds)
        return [] if good and kinds else ["L19"]
    if isinstance(node, ast.Raise) and (node.exc or node.cause):
        if not isinstance(node.exc, ast.Call) or not isinstance(node.exc.func, ast.Name):
            return ["L19"]
        if not node.exc.func.id[0].isupper() or node.cause:
            return ["L19"]
    return []


def module_level(tree):
    """A docstring, then imports, then functions, classes and plain values."""
    found = []
    begun = False
    for node in tree.body:
        if isinstance(node, ast.ImportFrom):
            if begun:
                found.append(("L2", node.lineno))
            continue
        if is_docstring(node):
            continue
        begun = True
        if isinstance(node, ast.Assign):
            if len(node.targets) > 1 or not isinstance(node.targets[0], ast.Name) or not is_table(node.value):
                found.append(("L3", node.lineno))
        elif not isinstance(node, (ast.FunctionDef, ast.ClassDef)):
            found.append(("L3", node.lineno))
    return found


def is_table(node):
    """A plain value, or a list, tuple or dict of plain values and tuples, that can be computed."""
    for inner in ast.walk(node):
        if not isinstance(inner, (ast.Constant, ast.Tuple, ast.List, ast.Dict, ast.BinOp, ast.UnaryOp, ast.operator,
                                  ast.unaryop, ast.expr_context)):
            return False
        if inner is not node and isinstance(inner, (ast.List, ast.Dict)):
            return False
    try:
        eval(compile(ast.Expression(node), "", "eval"), {})
    except (ArithmeticError, LookupError, TypeError, ValueError):
        return False
    return True


def bound_twice(tree):
    """A name at module level is bound once, and no local name hides an import or a class."""
    found = []
    firm = {}
    for node in tree.body:
        if isinstance(node, (ast.FunctionDef, ast.ClassDef)):
            names = [node.name]
        elif isinstance(node, ast.ImportFrom):
            names = [alias.asname or alias.name for alias in node.names]
        elif isinstance(node, ast.Assign):
            names = [target.id for target in node.targets if isinstance(target, ast.Name)]
        else:
            names = []
        for name in names:
            if name in firm:
                found.append(("L15", node.lineno))
            firm[name] = isinstance(node, (ast.ClassDef, ast.ImportFrom))
    for node in ast.walk(tree):
        if isinstance(node, (ast.Name, ast.arg)) and node.above is not tree:
            for name in names_bound_by(node):
                if firm.get(name):
                    found.append(("L15", node.lineno))
    return found


def imports(module, trees):
    """Each import is of the very file that defines the name, and no files import from each other in a ring."""
    found = []
    for node in ast.walk(trees[module]):
        if isinstance(node, ast.Import):
            found.append(("L2", node.lineno))
        if not isinstance(node, ast.ImportFrom):
            continue
        if node.level or not isinstance(node.above, ast.Module) or node.module not in trees:
            found.append(("L2", node.lineno))
            continue
        for alias in node.names:
            if alias.asname or alias.name not in defined_names(trees[node.module]):
                found.append(("L16", node.lineno))
        if module in all_imported(node.module, trees):
            found.append(("L16", node.lineno))
    return found


def defined_names(tree):
    names = set()
    for node in tree.body:
        if isinstance(node, (ast.FunctionDef, ast.ClassDef)):
            names.add(node.name)
        if isinstance(node, ast.Assign):
            names |= {target.id for target in node.targets if isinstance(target, ast.Name)}
    return names


def all_imported(module, trees):
    """The module itself and everything that it imports, also through other files."""
    reached = [module]
    for one in reached:
        for node in trees[one].body:
            if isinstance(node, ast.ImportFrom) and node.module in trees and node.module not in reached:
                reached.append(node.module)
    return reached
