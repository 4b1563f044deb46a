"""The package's files keep to ../shared/LANGUAGE.md, as far as a small script can see."""

import ast
import builtins
import pathlib
import re
import unittest

ROOT = pathlib.Path(__file__).resolve().parent.parent
PACKAGE = ROOT / "peepbook"
INTERFACE = {"rewriting.py": ["answers"]}

ERRORS = set("""Exception ValueError TypeError KeyError IndexError LookupError ZeroDivisionError ArithmeticError
    OverflowError RuntimeError NotImplementedError AttributeError StopIteration""".split())
BUILT_IN = ERRORS | set("""len range enumerate zip min max sum abs sorted reversed int str bool list tuple dict set
    frozenset isinstance ord repr any all divmod""".split())
PLAIN_KEYS = set("len int str abs sum min max tuple".split())
KINDS = set("int str bool list tuple dict".split()) | ERRORS
METHODS = set("""append clear copy count endswith extend find get index insert isalnum isalpha isdigit islower isspace
    isupper items join keys ljust lower lstrip partition pop remove replace reverse rfind rjust rpartition rsplit rstrip
    setdefault split splitlines startswith strip update upper values zfill bit_length""".split())
CHANGES = set("append clear extend insert pop remove reverse setdefault update add discard sort".split())
KEYWORDS = {"sorted": {"key", "reverse"}, "min": {"key", "default"}, "max": {"key", "default"}, "sum": {"start"},
            "enumerate": {"start"}, "zip": {"strict"}}
SPECIAL = {"__init__", "__eq__", "__repr__", "__str__", "__len__"}
FREE_METHODS = METHODS | {"add", "discard"}
FREE_VALUES = set("count index title find get join lower upper split strip copy add".split())
PYTHONS_OWN = {name for kind in (str, int, list, dict, set, bytes, tuple) for name in dir(kind)}
NEVER = set("register mro elements open input version_info with_traceback add_note format format_map".split())
NEVER_NAMES = NEVER | set("""attrgetter breakpoint builtins compile copyright credits delattr dir eval exec exit gc
    getattr globals hasattr help id importlib license locals methodcaller os quit setattr super type vars
    sys""".split())
FRAME_NAME = re.compile(r"^(f|tb|co|gi|cr|ag)_[a-z]+$")
WORDS = re.compile(r"\b(type|typing|typing_extensions|enum|Enum|IntEnum|StrEnum|Flag|IntFlag|Generic|Protocol|ABC"
                   r"|ABCMeta|namedtuple|NamedTuple|TypedDict|TYPE_CHECKING|abstractmethod)\b"
                   r"|dataclass|overload|contextmanager")
STATEMENTS = (ast.Assign, ast.AugAssign, ast.AnnAssign, ast.If, ast.While, ast.For, ast.Return, ast.Break,
              ast.Continue, ast.Pass, ast.Raise, ast.Try, ast.Expr, ast.FunctionDef, ast.ClassDef, ast.Import,
              ast.ImportFrom)
REFUSED = {ast.Set: "L7", ast.SetComp: "L7", ast.DictComp: "L7", ast.GeneratorExp: "L7", ast.NamedExpr: "L7",
           ast.Starred: "L7", ast.Div: "L7", ast.MatMult: "L7", ast.Yield: "L6", ast.YieldFrom: "L6",
           ast.Await: "L6", ast.Import: "L2"}
WALKED = {"zip", "enumerate", "reversed", "range"}
WALKERS = set("list tuple dict sorted sum any all enumerate zip min max".split())


def parents_of(tree):
    return {child: node for node in ast.walk(tree) for child in ast.iter_child_nodes(node)}


def is_docstring(node):
    return isinstance(node, ast.Expr) and isinstance(node.value, ast.Constant) and isinstance(node.value.value, str)


def names_of_target(target):
    return [node.id for node in ast.walk(target) if isinstance(node, ast.Name) and isinstance(node.ctx, ast.Store)]


def called(node):
    """The plain name that a call calls, or an empty text."""
    return node.func.id if isinstance(node, ast.Call) and isinstance(node.func, ast.Name) else ""


class File:
    """What is found against one file: pairs of a rule and a line."""

    def __init__(self, name, source):
        self.name = name
        self.source = source
        self.found = []
        self.tree = ast.parse(source)
        self.parents = parents_of(self.tree)
        self.nodes = list(ast.walk(self.tree))
        self.defs = {node.name for node in self.nodes if isinstance(node, ast.FunctionDef)}
        self.top_names = {}
        self.imported = {alias.name: node.module for node in self.tree.body if isinstance(node, ast.ImportFrom)
                         for alias in node.names}
        self.classes = {node.name: node for node in self.nodes if isinstance(node, ast.ClassDef)}

    def say(self, rule, node):
        self.found.append((rule, getattr(node, "lineno", node if isinstance(node, int) else 0)))

    def check(self):
        self.check_signs()
        self.check_top()
        for node in self.nodes:
            if isinstance(node, ast.stmt) and not isinstance(node, STATEMENTS):
                self.say("L6", node)
            if type(node) in REFUSED:
                self.say(REFUSED[type(node)], node)
            for kind, look in ((ast.FunctionDef, self.check_def), (ast.ClassDef, self.check_class),
                               (ast.Name, self.check_name), (ast.Attribute, self.check_attribute),
                               (ast.Constant, self.check_constant), (ast.Call, self.check_call),
                               (ast.Try, self.check_try), (ast.Compare, self.check_compare),
                               (ast.JoinedStr, self.check_f_string), (ast.BinOp, self.check_power),
                               (ast.ListComp, self.check_comprehension), (ast.arg, self.check_arg)):
                if isinstance(node, kind):
                    look(node)
            self.check_small(node)
        return self.found

    def check_signs(self):
        for number, line in enumerate(self.source.split("\n"), 1):
            if any(not " " <= sign <= "~" for sign in line):
                self.say("L14", number)
            if len(line) > 120:
                self.say("L10", number)
            if WORDS.search(line):
                self.say("L17", number)
        if len(self.source.splitlines()) > 399:
            self.say("L10", 400)

    def check_top(self):
        bound = {}
        for number, node in enumerate(self.tree.body):
            if isinstance(node, ast.ImportFrom):
                self.check_import(node)
                names = [alias.name for alias in node.names]
            elif isinstance(node, (ast.FunctionDef, ast.ClassDef)):
                names = [node.name]
            elif isinstance(node, ast.Assign) and self.is_plain(node.value, True):
                names = names_of_target(node.targets[0])
                self.top_names.update({name: node.value for name in names})
            else:
                names = []
                if not (number == 0 and is_docstring(node)):
                    self.say("L3", node)
            for name in names:
                if name in bound:
                    self.say("L15", node)
                bound[name] = True
        if not self.tree.body or not is_docstring(self.tree.body[0]):
            self.say("L3", 1)

    def is_plain(self, value, outermost):
        """A number, a text and so on, or a tuple (at the outside also a list or dict) of such and of defs."""
        if isinstance(value, ast.UnaryOp) and isinstance(value.op, ast.USub):
            value = value.operand
        if isinstance(value, ast.Constant):
            return True
        if isinstance(value, ast.Name):
            return not outermost and value.id in self.defs
        if isinstance(value, ast.Tuple) or outermost and isinstance(value, ast.List):
            return all(self.is_plain(part, False) for part in value.elts)
        if outermost and isinstance(value, ast.Dict):
            return all(part is not None and self.is_plain(part, False) for part in value.keys + value.values)
        return False

    def check_import(self, node):
        if node.module == "__future__":
            return
        if node.level or not (node.module or "").startswith("peepbook.") or node.module.endswith("__main__"):
            self.say("L2", node)
        if any(alias.name == "*" or alias.asname for alias in node.names):
            self.say("L16", node)

    def check_def(self, node):
        spread = node.args.vararg or node.args.kwarg or node.args.kwonlyargs or node.args.posonlyargs
        if spread or node.decorator_list:
            self.say("L4", node)
        if not all(isinstance(value, ast.Constant) for value in node.args.defaults):
            self.say("L4", node)
        if node.end_lineno - node.lineno + 1 > 40:
            self.say("L10", node)
        if node.returns is not None and not isinstance(self.parents[node], (ast.Module, ast.ClassDef)):
            self.say("L21", node)
        self.check_bound(node.name, node)
        own = isinstance(self.parents[node], ast.ClassDef)
        if own and node.name in PYTHONS_OWN - FREE_METHODS - SPECIAL:
            self.say("L26", node)
        if node.name == "__init__" and any(isinstance(n, ast.Return) and n.value for n in ast.walk(node)):
            self.say("L28", node)

    def check_class(self, node):
        if not isinstance(self.parents[node], ast.Module):
            self.say("L15", node)
        if len(node.bases) > 1 or node.keywords or node.decorator_list:
            self.say("L5", node)
        names = [part.name for part in node.body if isinstance(part, ast.FunctionDef)]
        if len(names) != len(set(names)):
            self.say("L18", node)
        if any(not isinstance(part, (ast.FunctionDef, ast.Pass)) and not is_docstring(part) for part in node.body):
            self.say("L5", node)
        self.check_bound(node.name, node)

    def check_bound(self, name, node):
        """A name that is bound anywhere."""
        own_method = isinstance(self.parents.get(node), ast.ClassDef) and isinstance(node, ast.FunctionDef)
        if own_method and name in SPECIAL:
            return
        if name.startswith("_") or not re.fullmatch("[A-Za-z0-9_]+", name):
            self.say("L12", node)
        if name in NEVER or FRAME_NAME.match(name) or not own_method and name in NEVER_NAMES:
            self.say("L17", node)
        if not own_method and name in BUILT_IN:
            self.say("L8", node)
        elif not own_method and name in dir(builtins):
            self.say("L15", node)

    def check_arg(self, node):
        self.check_bound(node.arg, node)
        if node.arg in self.imported or node.arg in self.classes:
            self.say("L15", node)

    def check_name(self, node):
        if isinstance(node.ctx, ast.Store):
            self.check_bound(node.id, node)
            at_top = isinstance(self.parents[node], ast.Assign) and self.parents[node] in self.tree.body
            if not at_top and (node.id in self.imported or node.id in self.classes):
                self.say("L15", node)
            return
        if node.id in NEVER_NAMES:
            self.say("L17", node)
        if node.id == "chr":
            self.say("L27", node)
        bound = {name.id for name in self.nodes if isinstance(name, ast.Name) and isinstance(name.ctx, ast.Store)}
        bound |= {arg.arg for arg in self.nodes if isinstance(arg, ast.arg)} | self.defs | set(self.classes)
        bound |= set(self.imported) | {h.name for h in self.nodes if isinstance(h, ast.ExceptHandler)}
        if node.id not in bound | BUILT_IN:
            self.say("L8", node)
        if node.id in BUILT_IN - ERRORS and node.id not in bound:
            self.check_built_in(node)
        if node.id in self.top_names or node.id.isupper() and node.id in self.imported:
            self.check_read_only(node)

    def check_built_in(self, node):
        """len, sorted and their like are called, not kept."""
        parent = self.parents[node]
        call = isinstance(parent, ast.Call) and parent.func is node
        key = isinstance(parent, ast.keyword) and parent.arg == "key" and node.id in PLAIN_KEYS
        around = self.parents[parent] if isinstance(parent, ast.Tuple) else parent
        kind = called(around) == "isinstance" and node.id in KINDS
        noted = isinstance(parent, (ast.arg, ast.Subscript, ast.BinOp, ast.AnnAssign, ast.FunctionDef))
        if not (call or key or kind or noted):
            self.say("L22", node)

    def check_read_only(self, node):
        """A list, dict or tuple of a file's top is read, and handed on as a copy alone."""
        value = self.top_names.get(node.id)
        if value is not None and not isinstance(value, (ast.List, ast.Dict, ast.Tuple)):
            return
        parent = self.parents[node]
        if isinstance(parent, ast.Attribute) and parent.attr in CHANGES:
            self.say("L15", node)
        if isinstance(parent, ast.Subscript) and not isinstance(parent.ctx, ast.Load):
            self.say("L15", node)
        if value is None:
            return
        if isinstance(parent, (ast.Return, ast.Assign)) and parent.value is node:
            self.say("L15", node)
        if isinstance(parent, ast.Call) and node in parent.args and called(parent) not in BUILT_IN:
            self.say("L15", node)

    def check_attribute(self, node):
        if node.attr in NEVER or FRAME_NAME.match(node.attr):
            self.say("L17", node)
        if node.attr.startswith("_") and node.attr not in SPECIAL | {"__name__"}:
            self.say("L12", node)
        if isinstance(node.ctx, ast.Store):
            if node.attr in PYTHONS_OWN - FREE_VALUES | {"args", "sort"}:
                self.say("L26", node)
            if not isinstance(node.value, ast.Name) or node.value.id in self.classes or node.value.id in self.top_names:
                self.say("L18", node)
            return
        parent = self.parents[node]
        call = isinstance(parent, ast.Call) and parent.func is node
        if node.attr in METHODS and node.attr not in FREE_VALUES and not call:
            self.say("L25", node)
        if call and node.attr in PYTHONS_OWN - METHODS - SPECIAL - {"add", "discard"}:
            self.say("L25", node)

    def check_constant(self, node):
        if isinstance(node.value, (float, complex, bytes)):
            self.say("L7", node)
        if isinstance(node.value, str) and "%" in node.value:
            self.say("L27", node)
        raw = ast.get_source_segment(self.source, node) or ""
        if isinstance(node.value, str) and re.search(r"\\[^nt\\'\"]", raw):
            self.say("L27", node)

    def check_call(self, node):
        name = called(node)
        if name in BUILT_IN and not {word.arg for word in node.keywords} <= KEYWORDS.get(name, set()):
            self.say("L22", node)
        if any(word.arg is None for word in node.keywords):
            self.say("L7", node)
        views = isinstance(node.func, ast.Attribute) and node.func.attr in ("items", "keys", "values")
        if (name in WALKED or views) and not self.is_walked(node):
            self.say("L23", node)
        if name in ("set", "frozenset") and not self.set_is_asked(node):
            self.say("L24", node)
        if isinstance(node.func, ast.Attribute) and isinstance(node.func.value, ast.Name) and node.func.attr in CHANGES:
            self.check_change(node, node.func.value.id)

    def is_walked(self, node):
        parent = self.parents[node]
        if isinstance(parent, (ast.For, ast.comprehension)):
            return parent.iter is node
        if isinstance(parent, ast.Call) and isinstance(parent.func, ast.Attribute) and parent.func.attr == "join":
            return isinstance(parent.func.value, ast.Constant)
        first = isinstance(parent, ast.Call) and node in parent.args
        return first and called(parent) in WALKERS and (called(parent) == "zip" or parent.args[0] is node)

    def set_is_asked(self, node):
        parent = self.parents[node]
        while isinstance(parent, ast.BinOp) and isinstance(parent.op, (ast.Sub, ast.BitAnd, ast.BitOr, ast.BitXor)):
            parent = self.parents[parent]
        return isinstance(parent, ast.Compare) or called(parent) in ("sorted", "len") and not parent.keywords

    def check_change(self, node, name):
        """What a loop walks is not changed in it."""
        around = self.parents[node]
        while not isinstance(around, (ast.FunctionDef, ast.Module)):
            if isinstance(around, ast.For):
                walked = around.iter
                if isinstance(walked, ast.Call) and called(walked) in ("enumerate", "zip", "reversed"):
                    walked = walked.args[0]
                if isinstance(walked, ast.Name) and walked.id == name:
                    self.say("L23", node)
            around = self.parents[around]

    def check_try(self, node):
        if node.finalbody or not node.handlers:
            self.say("L6", node)
        for handler in node.handlers:
            kinds = handler.type.elts if isinstance(handler.type, ast.Tuple) else [handler.type]
            names = [kind.id if isinstance(kind, ast.Name) else "" for kind in kinds]
            if not names or "" in names:
                self.say("L6" if handler.type is None else "L19", handler)
            if set(names) & (ERRORS - {"KeyError", "ZeroDivisionError", "StopIteration", "ValueError", "LookupError",
                                       "IndexError"}):
                self.say("L19", handler)
            if handler.name:
                self.check_bound(handler.name, handler)

    def check_compare(self, node):
        for operation, right in zip(node.ops, node.comparators):
            if isinstance(operation, (ast.Is, ast.IsNot)):
                if not (isinstance(right, ast.Constant) and any(right.value is one for one in (None, True, False))):
                    self.say("L20", node)

    def check_f_string(self, node):
        for part in node.values:
            if isinstance(part, ast.FormattedValue):
                if not isinstance(part.value, ast.Name) or part.format_spec or part.conversion not in (-1, 114):
                    self.say("L7", node)

    def check_power(self, node):
        if isinstance(node.op, ast.Pow):
            power = node.right.value if isinstance(node.right, ast.Constant) else -1
            if not isinstance(power, int) or not 0 <= power <= 64:
                self.say("L27", node)

    def check_comprehension(self, node):
        if len(node.generators) > 1 or len(node.generators[0].ifs) > 1:
            self.say("L7", node)

    def check_small(self, node):
        if isinstance(node, ast.Assign):
            if len(node.targets) > 1 or isinstance(node.targets[0], (ast.Tuple, ast.List)):
                self.say("L6", node)
        if isinstance(node, (ast.For, ast.While)) and node.orelse:
            self.say("L6", node)
        if isinstance(node, ast.Expr) and not isinstance(node.value, ast.Call) and not self.documents(node):
            self.say("L6", node)
        if isinstance(node, ast.Raise) and not isinstance(node.exc, ast.Call):
            self.say("L19", node)
        if isinstance(node, ast.AnnAssign) and (node.value is None or not isinstance(node.target, ast.Name)):
            self.say("L21", node)
        if isinstance(node, ast.ImportFrom) and node not in self.tree.body:
            self.say("L2", node)

    def documents(self, node):
        holder = self.parents[node]
        return is_docstring(node) and isinstance(holder, (ast.Module, ast.ClassDef, ast.FunctionDef)) \
            and holder.body[0] is node


def check_folder(files):
    """What is found against several files together; files is a dict from a name to a File."""
    found = []
    draws = {name: {module.split(".")[-1] + ".py" for module in file.imported.values()} for name, file in files.items()}
    for _ in files:
        draws = {name: near.union(*(draws.get(other, set()) for other in near)) for name, near in draws.items()}
    methods = {}
    values = {}
    for name, file in files.items():
        if name in draws[name]:
            found.append(("L16", name))
        tops = {node.name for node in file.tree.body if isinstance(node, (ast.FunctionDef, ast.ClassDef))}
        for home, functions in INTERFACE.items():
            if (home == name) != bool(tops & set(functions)):
                found.append(("L16", name))
        for word, module in file.imported.items():
            source = files.get(module.split(".")[-1] + ".py")
            if source is None or word not in source.defs | set(source.classes) | set(source.top_names):
                found.append(("L16", name))
        for node in file.nodes:
            if isinstance(node, ast.Attribute) and isinstance(node.ctx, ast.Store):
                values[node.attr] = name
            if isinstance(node, ast.FunctionDef) and isinstance(file.parents[node], ast.ClassDef):
                methods[node.name] = name
    return found + [("L18", methods[name]) for name in sorted(set(methods) & set(values))]


def found_in(source, name="other.py"):
    return File(name, source).check()


class Package(unittest.TestCase):
    def test_the_folder_holds_plain_files_alone(self):
        names = sorted(path.name for path in PACKAGE.iterdir() if path.name != "__pycache__")
        self.assertIn("__init__.py", names)
        self.assertIn("rewriting.py", names)
        for name in names:
            self.assertTrue((PACKAGE / name).is_file())
            self.assertRegex(name, r"^([a-z0-9][a-z0-9_]*|__init__|__main__)\.py$")
            self.assertNotRegex(name, r"^(test|tests|testing|test_.*|site|conftest|sitecustomize|usercustomize)\.py$")
            self.assertNotIn(name[:-3], dir(builtins))
            self.assertIsNone(WORDS.search(name))

    def test_every_file_keeps_to_the_rules(self):
        files = {path.name: File(path.name, path.read_text("utf-8")) for path in sorted(PACKAGE.glob("*.py"))}
        for name, file in files.items():
            self.assertEqual(file.check(), [], name)
        self.assertEqual(check_folder(files), [])


class Checker(unittest.TestCase):
    """The script sees what it is there to see."""

    def body(self, rule, *lines):
        source = '"""Text."""\n\n\ndef tried(given):\n' + "".join(f"    {line}\n" for line in lines)
        self.assertIn(rule, [found for found, line in found_in(source)], lines)

    def top(self, rule, *lines):
        source = '"""Text."""\n' + "".join(line + "\n" for line in lines)
        self.assertIn(rule, [found for found, line in found_in(source)], lines)

    def test_sound_code_is_let_through(self):
        self.assertEqual(found_in('"""Text."""\n\nMOST = 3\nWORDS = ("a", ("b", 2))\n\n\nclass One:\n    """One."""\n\n'
                                  '    def __init__(self, x=0):\n        self.x = x\n\n\ndef two(given):\n'
                                  '    """Two."""\n    told = [one + 1 for one in given if one in WORDS]\n'
                                  '    for place, one in enumerate(told):\n        given.append(f"{place}{one!r}")\n'
                                  '    return sorted(set(given)) if len(given) > MOST else list(range(2 ** 32))\n'), [])

    def test_tops(self):
        self.top("L2", "import sys")
        self.top("L2", "from os import path")
        self.top("L2", "from .texts import text_of")
        self.top("L16", "from peepbook.texts import *")
        self.top("L16", "from peepbook.texts import text_of as told")
        self.top("L3", "X = [1 for y in (1, 2)]")
        self.top("L3", "X = ([1], 2)")
        self.top("L3", "if True:", "    X = 1")
        self.top("L3", "print(1)")
        self.top("L15", "X = 1", "X = 2")
        self.top("L10", "X = " + "1" * 117)
        self.top("L10", *["#"] * 399)
        self.top("L14", "# \xe9")
        self.top("L14", "# a\tb")
        self.top("L17", "# a type")
        self.top("L17", "# overloaded")
        self.top("L12", "_X = 1")
        self.top("L5", "class A:", "    x = 1")
        self.top("L5", "class A(int, str):", "    pass")
        self.top("L18", "class A:", "    def b(self):", "        return 1", "    def b(self):", "        return 2")
        self.top("L26", "class A:", "    def encode(self):", "        return 1")
        self.top("L28", "class A:", "    def __init__(self):", "        return None")

    def test_statements(self):
        for lines in (["with given:", "    pass"], ["del given"], ["assert given"], ["global x"], ["a = b = given"],
                      ["yield given"], ["for x in given:", "    pass", "else:", "    pass"], ["given + 1"],
                      ["a, b = given"], ["try:", "    pass", "finally:", "    pass"],
                      ["try:", "    pass", "except:", "    pass"]):
            self.body("L6", *lines)
        for lines in (["@given", "def inner():", "    return 1"], ["def inner(*more):", "    return 1"],
                      ["def inner(x=[]):", "    return 1"]):
            self.body("L4", *lines)
        self.body("L2", "from peepbook.texts import text_of")
        self.body("L10", *["pass"] * 40)
        self.body("L19", "raise given")
        self.body("L19", "try:", "    pass", "except Exception:", "    pass")
        self.body("L21", "given.x: int = 1")

    def test_expressions(self):
        for line in ("x = 1.5", "x = given / 2", "x = b'a'", "x = {1, 2}", "x = {y for y in given}",
                     "x = any(y for y in given)", "x = {y: 1 for y in given}", "x = [*given]",
                     "x = given(**given)", "x = (y := 1)", "x = [y for y in given for z in given]",
                     "x = f'{given:5}'", "x = f'{given.x}'"):
            self.body("L7", line)
        for line in ("x = hash(given)", "len = 1", "x = unknown"):
            self.body("L8", line)
        for line in ("x = eval(given)", "x = given.open", "register = 1", "x = given.co_names"):
            self.body("L17", line)
        self.body("L12", "x = given._x")
        self.body("L15", "hash = given")
        self.body("L20", "x = given is 1")
        for line in ("x = len", "x = sorted(given, other=1)", "x = max(given, key=range)"):
            self.body("L22", line)
        for lines in (["x = range(3)"], ["x = given.items()"], ["for x in given:", "    given.append(x)"],
                      ["for x, y in enumerate(given):", "    given.pop()"]):
            self.body("L23", *lines)
        self.body("L24", "x = set(given)")
        for line in ("given.sort()", "x = given.append", "x = given.encode()"):
            self.body("L25", line)
        self.body("L26", "given.items = 1")
        for line in ("x = chr(given)", "x = 2 ** given", "x = 2 ** 65", "x = 'a%'", "x = '\\x41'"):
            self.body("L27", line)

    def test_what_stands_at_the_top_is_read_alone(self):
        for line in ("X.append(1)", "X[0] = 1", "return X", "x = X", "return given(X)"):
            source = f'"""Text."""\nX = [1]\n\n\ndef tried(given):\n    {line}\n'
            self.assertIn("L15", [found for found, number in found_in(source)], line)
        source = '"""Text."""\nfrom peepbook.texts import told\n\n\ndef tried(told):\n    return told\n'
        self.assertIn("L15", [found for found, number in found_in(source)])

    def test_files_together(self):
        main = '"""Text."""\n{}\n\ndef answers(calls):\n    return [calls]\n'
        sound = {"rewriting.py": main.format("from peepbook.other import X\n"), "other.py": '"""Text."""\nX = 1\n'}

        def rules(**changed):
            sources = {**sound, **{name + ".py": source for name, source in changed.items()}}
            files = {name: self.checked(name, source) for name, source in sources.items()}
            return [rule for rule, name in check_folder(files)]

        self.assertEqual(rules(), [])
        self.assertIn("L16", rules(other='"""Text."""\nfrom peepbook.rewriting import answers\nX = 1\n'))
        self.assertIn("L16", rules(other='"""Text."""\nY = 1\n'))
        self.assertIn("L16", rules(rewriting='"""Text."""\n'))
        self.assertIn("L16", rules(more='"""Text."""\n\n\ndef answers(calls):\n    return calls\n'))
        self.assertIn("L18", rules(more='"""Text."""\n\n\nclass A:\n    def one(self):\n        self.two = 1\n\n\n'
                                        'class B:\n    def two(self):\n        self.three = 1\n'))

    def checked(self, name, source):
        file = File(name, source)
        file.check()
        return file


if __name__ == "__main__":
    unittest.main()
