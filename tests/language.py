"""Rules of LANGUAGE.md that a script can look after: each check returns a list of what breaks it."""

import ast
import builtins
import io
import tokenize

NOWHERE = """register mro elements open input law version_info with_traceback add_note""".split()
FRAMES = ("f_", "tb_", "co_", "gi_", "cr_", "ag_")
NOT_NAMES = """attrgetter breakpoint builtins compile copyright credits delattr dir eval exec exit gc globals help id
importlib license locals methodcaller os quit vars sys __name__""".split()
NOT_IN_FILES = """type typing typing_extensions enum Enum IntEnum StrEnum Flag IntFlag Generic Protocol ABC ABCMeta namedtuple
NamedTuple TypedDict TYPE_CHECKING abstractmethod""".split()
NOT_IN_WORDS = ["dataclass", "overload", "contextmanager"]
BARRED_NAMES = "_cold _tuplegetter _outside _record _written_out _member_names".split()
BARRED_BEGINNINGS = "_wall _pe_ _dcw_ _enum_ _cm_ _twin_re_ _lay_ _law_ _stub_ _sre _WallAttr __".split()
BARRED_FILES = "test tests testing site conftest sitecustomize usercustomize heapq math itertools collections".split()

BUILTINS = """len range enumerate zip min max sum abs sorted reversed int str bool list tuple dict set isinstance ord repr any all
divmod ValueError property""".split()
METHODS = """append clear copy count endswith extend find get index insert isalnum isalpha isdigit islower isspace isupper items
join keys ljust lower lstrip partition pop remove replace reverse rfind rjust rpartition rsplit rstrip setdefault split
splitlines startswith strip update upper values zfill bit_length""".split()
LIBRARY = {"heapq": "heappush heappop heapify heapreplace heappushpop".split(), "math": "gcd lcm isqrt comb perm factorial".split()}
# A console, and so doctest, puts `_` among the builtins.
BUILTIN_NAMES = [word for word in vars(builtins) if word != "_"]
DUNDERS = ["__init__", "__eq__", "__len__"]
STATEMENTS = (ast.FunctionDef, ast.Return, ast.Delete, ast.Assign, ast.AugAssign, ast.For, ast.While, ast.If, ast.Raise,
              ast.Assert, ast.Expr, ast.Pass, ast.Break, ast.Continue, ast.Import, ast.ImportFrom, ast.ClassDef, ast.Try)


def words_of(text):
    """Return the words of a file that stand neither in comments nor in docstrings, with their lines."""
    docs = docstring_lines(text)
    found = []
    for token in tokenize.generate_tokens(io.StringIO(text).readline):
        if token.type in (tokenize.NAME, tokenize.STRING) and token.start[0] not in docs:
            word = ""
            for sign in token.string + " ":
                if sign.isalnum() or sign == "_":
                    word += sign
                elif word:
                    found.append((word, token.start[0]))
                    word = ""
    return found


def docstring_lines(text):
    """Return the lines on which a docstring begins."""
    found = set()
    for node in ast.walk(ast.parse(text)):
        if isinstance(node, (ast.Module, ast.ClassDef, ast.FunctionDef)) and ast.get_docstring(node) is not None:
            found.add(node.body[0].lineno)
    return found


def bound_names(tree):
    """Return all names that a file binds, with their lines: attributes and methods apart."""
    found = []
    methods = {id(one) for node in ast.walk(tree) if isinstance(node, ast.ClassDef) for one in node.body}
    for node in ast.walk(tree):
        if isinstance(node, ast.Name) and isinstance(node.ctx, (ast.Store, ast.Del)):
            found.append((node.id, node.lineno))
        if isinstance(node, ast.arg):
            found.append((node.arg, node.lineno))
        if isinstance(node, ast.ClassDef) or (isinstance(node, ast.FunctionDef) and id(node) not in methods):
            found.append((node.name, node.lineno))
        if isinstance(node, ast.ImportFrom):
            found.extend([(one.asname or one.name, node.lineno) for one in node.names])
        if isinstance(node, ast.ExceptHandler) and node.name:
            found.append((node.name, node.lineno))
    return found


def all_names(tree):
    """Return all names of a file, attributes, methods and keywords too, with their lines."""
    found = bound_names(tree)
    for node in ast.walk(tree):
        if isinstance(node, ast.Attribute):
            found.append((node.attr, node.lineno))
        if isinstance(node, ast.keyword) and node.arg:
            found.append((node.arg, node.value.lineno))
        if isinstance(node, (ast.FunctionDef, ast.ClassDef)):
            found.append((node.name, node.lineno))
        if isinstance(node, ast.Name):
            found.append((node.id, node.lineno))
    return found


def check_sizes(text):
    """L10: lines of a function, of a file, signs of a line."""
    lines = text.split("\n")
    found = [f"line {at + 1} is too long" for at, line in enumerate(lines) if len(line) > 120]
    if len(lines) - 1 > 399:
        found.append("the file is too long")
    for node in ast.walk(ast.parse(text)):
        if isinstance(node, ast.FunctionDef) and node.end_lineno - node.lineno + 1 > 40:
            found.append(f"{node.name} is too long")
    return found


def check_signs(text):
    """L10, L14: only signs from the space to the tilde, and line feeds, the last of them at the end."""
    found = [f"sign {ord(sign)}" for sign in text if sign != "\n" and not " " <= sign <= "~"]
    return found if text.endswith("\n") else found + ["no line feed at the end"]


def check_words(text):
    """L12, L17: words that do not stand in a file, and names that are not used."""
    found = [f"{line}: {word}" for word, line in words_of(text) if word in NOT_IN_FILES]
    found.extend([f"{line}: {word}" for word, line in words_of(text) if any([part in word for part in NOT_IN_WORDS])])
    tree = ast.parse(text)
    for word, line in all_names(tree):
        if word in NOWHERE or word.startswith(FRAMES):
            found.append(f"{line}: {word}")
    for word, line in bound_names(tree):
        if word in NOT_NAMES or word.rstrip("_0123456789") in BARRED_NAMES:
            found.append(f"{line}: {word}")
        if word.startswith(tuple(BARRED_BEGINNINGS)) or not word.isascii():
            found.append(f"{line}: {word}")
    if "_wall" in text or "_WallAttr" in text:
        found.append("a word that stands nowhere")
    return found


def check_names(text):
    """L15: no name of a builtin; no parameter, variable or nested function has the name of a class or an import."""
    tree = ast.parse(text)
    found = [f"{line}: {word}" for word, line in bound_names(tree) if word in BUILTIN_NAMES]
    taken = [one.name for node in tree.body if isinstance(node, ast.ImportFrom) for one in node.names]
    taken.extend([node.name for node in tree.body if isinstance(node, ast.ClassDef)])
    tops = [node.name for node in tree.body if isinstance(node, (ast.FunctionDef, ast.ClassDef))]
    tops.extend([target.id for node in tree.body if isinstance(node, ast.Assign) for target in node.targets])
    tops.extend([one.name for node in tree.body if isinstance(node, ast.ImportFrom) for one in node.names])
    found.extend([f"bound twice: {word}" for word in set(tops) if tops.count(word) > 1])
    for top in tree.body:
        for node in ast.walk(top):
            if isinstance(node, ast.FunctionDef):
                for word, line in bound_names(ast.Module(body=node.body, type_ignores=[])) + [
                        (one.arg, one.lineno) for one in ast.walk(node) if isinstance(one, ast.arg)]:
                    if word in taken:
                        found.append(f"{line}: {word} is taken")
    return found


def check_imports(text):
    """L2, L16: imports stand at the top and come from the package, or are calls of the library."""
    found = []
    for node in ast.walk(ast.parse(text)):
        if isinstance(node, ast.Import):
            found.append(f"{node.lineno}: import")
        if isinstance(node, ast.ImportFrom):
            names = [one.name for one in node.names]
            plain = all([one.asname is None and one.name != "*" for one in node.names]) and node.level == 0
            known = (node.module or "").startswith("rootward.") or set(names) <= set(LIBRARY.get(node.module, []))
            if not plain or not known or node.col_offset != 0:
                found.append(f"{node.lineno}: {node.module}")
    return found


def is_plain_try(node, own_errors):
    """L19: only errors of the package are caught, each by its name; no finally."""
    words = [one.type.id if isinstance(one.type, ast.Name) else None for one in node.handlers]
    return node.finalbody == [] and words != [] and all([word in own_errors for word in words])


def check_statements(text):
    """L3, L4, L6, L19: what may stand at module level, in classes and in functions."""
    tree = ast.parse(text)
    found = []
    own_errors = [one.name for node in tree.body if isinstance(node, ast.ImportFrom) and node.module == "rootward.errors" for one in node.names]
    for node in tree.body:
        docstring = isinstance(node, ast.Expr) and isinstance(node.value, ast.Constant)
        plain = isinstance(node, ast.Assign) and len(node.targets) == 1 and isinstance(node.targets[0], ast.Name)
        if not docstring and not plain and not isinstance(node, (ast.ImportFrom, ast.FunctionDef, ast.ClassDef)):
            found.append(f"{node.lineno}: at module level")
        if plain and [one for one in ast.walk(node) if isinstance(one, (ast.Call, ast.ListComp, ast.Lambda))]:
            found.append(f"{node.lineno}: no plain value")
    for node in ast.walk(tree):
        if isinstance(node, ast.stmt) and not isinstance(node, STATEMENTS):
            found.append(f"{node.lineno}: {node.__class__.__name__}")
        if isinstance(node, ast.Try) and not is_plain_try(node, own_errors):
            found.append(f"{node.lineno}: try")
        if isinstance(node, (ast.FunctionDef, ast.ClassDef)) and [
                one for one in node.decorator_list if ast.unparse(one) != "property"]:
            found.append(f"{node.lineno}: decorator")
        if isinstance(node, ast.Raise) and not (isinstance(node.exc, ast.Call) and isinstance(node.exc.func, ast.Name)):
            found.append(f"{node.lineno}: raise")
        if isinstance(node, ast.FunctionDef) and node.name.startswith("__") and node.name not in DUNDERS:
            found.append(f"{node.lineno}: {node.name}")
    return found


def check_expressions(text, own):
    """L7, L8, L20, L24, L25, L27: no generator expressions, floats, unknown builtins or methods, and so on."""
    found = []
    tree = ast.parse(text)
    bound = {word for word, _ in bound_names(tree)}
    for node in ast.walk(tree):
        line = getattr(node, "lineno", 0)
        if isinstance(node, (ast.GeneratorExp, ast.Lambda, ast.NamedExpr, ast.Await, ast.Yield, ast.YieldFrom, ast.Starred)):
            found.append(f"{line}: {node.__class__.__name__}")
        if isinstance(node, ast.Div) or (isinstance(node, ast.Constant) and isinstance(node.value, float)):
            found.append(f"{line}: float")
        if isinstance(node, ast.Constant) and isinstance(node.value, str) and "%" in node.value:
            found.append(f"{line}: percent sign")
        if isinstance(node, ast.Compare):
            for sign, other in zip(node.ops, node.comparators):
                if isinstance(sign, (ast.Is, ast.IsNot)) and not (isinstance(other, ast.Constant) and other.value in (None, True, False)):
                    found.append(f"{line}: is")
        if isinstance(node, ast.BinOp) and isinstance(node.op, ast.Pow):
            if not (isinstance(node.right, ast.Constant) and 0 <= node.right.value <= 64):
                found.append(f"{line}: exponent")
        if isinstance(node, ast.Name) and node.id in BUILTIN_NAMES and node.id not in BUILTINS:
            found.append(f"{line}: {node.id}")
        if isinstance(node, ast.Name) and isinstance(node.ctx, ast.Load) and node.id not in bound | set(BUILTINS):
            found.append(f"{line}: {node.id} is not bound")
        if isinstance(node, ast.Name) and node.id == "_" and isinstance(node.ctx, ast.Load):
            found.append(f"{line}: _ is read")
        if isinstance(node, ast.Call) and isinstance(node.func, ast.Attribute):
            if node.func.attr not in METHODS + own:
                found.append(f"{line}: .{node.func.attr}()")
    return found


def check_sets(text):
    """L24: sets stand after `in`, or directly in `sorted` or `len` without keywords."""
    tree = ast.parse(text)
    allowed = set()
    for node in ast.walk(tree):
        if isinstance(node, ast.Call) and isinstance(node.func, ast.Name) and node.func.id in ("sorted", "len") and not node.keywords:
            allowed.update([id(one) for one in node.args[:1]])
        if isinstance(node, ast.Compare):
            allowed.update([id(one) for sign, one in zip(node.ops, node.comparators) if isinstance(sign, (ast.In, ast.NotIn))])
    found = []
    for node in ast.walk(tree):
        is_call = isinstance(node, ast.Call) and isinstance(node.func, ast.Name) and node.func.id == "set"
        if (is_call or isinstance(node, (ast.Set, ast.SetComp))) and id(node) not in allowed:
            found.append(f"{node.lineno}: a set")
    return found


def cycles(texts):
    """L16: return the files that import one another, of a dict of texts by their names."""
    leads = {}
    for word, text in texts.items():
        nodes = [node for node in ast.walk(ast.parse(text)) if isinstance(node, ast.ImportFrom)]
        leads[word] = [node.module.split(".")[1] for node in nodes if node.module.startswith("rootward.")]
    found = []
    for word in leads:
        reached, waiting = set(), list(leads[word])
        while waiting:
            other = waiting.pop()
            if other not in reached:
                reached.add(other)
                waiting.extend(leads[other])
        if word in reached:
            found.append(word)
    return found
