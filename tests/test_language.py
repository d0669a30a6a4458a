"""The rules L1 to L28 of ../shared/LANGUAGE.md, as far as the package's text shows them.

Where the document leaves a way that the package doesn't go (an annotation, a list at a
file's top, ValueError taken), the check is narrower than the rule.
"""

import ast
import builtins
import io
import re
import tokenize
import unittest
from pathlib import Path

PACKAGE = Path(__file__).resolve().parent.parent / "watchtowers"

ERRORS = set(
    "Exception ValueError TypeError KeyError IndexError LookupError ZeroDivisionError ArithmeticError OverflowError "
    "RuntimeError NotImplementedError AttributeError StopIteration".split()
)
CALLED = set(
    "len range enumerate zip min max sum abs sorted reversed int str bool list tuple dict set frozenset isinstance ord "
    "repr any all divmod".split()
)
METHODS = set(
    "append clear copy count endswith extend find get index insert isalnum isalpha isdigit islower isspace isupper "
    "items join keys ljust lower lstrip partition pop remove replace reverse rfind rjust rpartition rsplit rstrip "
    "setdefault split splitlines startswith strip update upper values zfill bit_length".split()
)
CHANGING = set("append clear extend insert pop remove reverse setdefault update".split())
FREE_VALUES = set("count index title find get join lower upper split strip copy add".split())
PYTHONS = {name for kind in (str, int, list, dict, set, bytes) for name in dir(kind)} | {"args", "format"}
SAME = set("__init__ __eq__ __repr__ __str__ __len__".split())
WORDS = re.compile(
    r"\b(type|typing|typing_extensions|enum|Enum|IntEnum|StrEnum|Flag|IntFlag|Generic|Protocol|ABC|ABCMeta|namedtuple"
    r"|NamedTuple|TypedDict|TYPE_CHECKING|abstractmethod)\b|dataclass|overload|contextmanager"
)
FILE_WORDS = WORDS.pattern.split("(")[1].split(")")[0].split("|")
NOWHERE = set("register mro elements open input version_info with_traceback add_note".split())
FRAMES = re.compile(r"(f|tb|co|gi|cr|ag)_[a-z]+")
NO_NAMES = NOWHERE | set(
    "attrgetter breakpoint builtins compile copyright credits delattr dir eval exec exit gc getattr globals hasattr "
    "help id importlib license locals methodcaller os quit setattr super type vars sys __name__".split()
)
KEYWORDS = {
    "sorted": {"key", "reverse"}, "min": {"key", "default"}, "max": {"key", "default"}, "sum": {"start"},
    "enumerate": {"start"}, "zip": {"strict"},
}
KEYS = set("len int str abs sum min max tuple".split())
WALKED = set("zip enumerate reversed range".split())
WALKED_METHODS = set("items keys values".split())
WALKERS = set("list tuple dict sorted sum any all enumerate zip".split())

STATEMENTS = (
    ast.ImportFrom, ast.FunctionDef, ast.ClassDef, ast.Return, ast.Assign, ast.AugAssign, ast.For, ast.While, ast.If,
    ast.Break, ast.Continue, ast.Pass, ast.Expr, ast.Raise, ast.Try,
)
EXPRESSIONS = (
    ast.BoolOp, ast.BinOp, ast.UnaryOp, ast.IfExp, ast.Compare, ast.Call, ast.Constant, ast.Attribute, ast.Subscript,
    ast.Slice, ast.Name, ast.List, ast.Tuple, ast.Dict, ast.Set, ast.ListComp, ast.Lambda, ast.JoinedStr,
    ast.FormattedValue,
)


def called_name(node):
    """The name that is called, None if it's no call of a name."""
    if isinstance(node, ast.Call) and isinstance(node.func, ast.Name):
        return node.func.id
    return None


def is_set(node):
    if isinstance(node, ast.BinOp) and isinstance(node.op, (ast.Sub, ast.BitAnd, ast.BitOr, ast.BitXor)):
        return is_set(node.left) and is_set(node.right)
    return called_name(node) in ("set", "frozenset")


def walked_part(node):
    """What a loop walks: the list itself, also through enumerate, reversed or items."""
    while isinstance(node, ast.Call) and (node.args or isinstance(node.func, ast.Attribute)):
        if called_name(node) in ("enumerate", "reversed", "zip"):
            node = node.args[0]
        elif isinstance(node.func, ast.Attribute) and node.func.attr in WALKED_METHODS:
            node = node.func.value
        else:
            return None
    return ast.dump(node) if isinstance(node, (ast.Name, ast.Attribute)) else None


class Checker:
    def __init__(self, texts, package="watchtowers"):
        self.texts, self.package, self.faults = texts, package, []
        self.trees = {name: ast.parse(text) for name, text in texts.items()}
        self.parents = {}
        for tree in self.trees.values():
            for node in ast.walk(tree):
                for child in ast.iter_child_nodes(node):
                    self.parents[child] = node
        every = [node for tree in self.trees.values() for node in ast.walk(tree)]
        self.classes = {node.name for node in every if isinstance(node, ast.ClassDef)}
        self.methods = {
            part.name for node in every if isinstance(node, ast.ClassDef) for part in node.body
            if isinstance(part, ast.FunctionDef)
        }

    def fault(self, rule, node=None):
        self.faults.append((rule, f"{self.name}:{getattr(node, 'lineno', 0)}"))

    def run(self):
        for name, tree in self.trees.items():
            self.name = name
            self.drawn = [node for node in ast.walk(tree) if isinstance(node, ast.ImportFrom)]
            self.imported = {alias.asname or alias.name for node in self.drawn for alias in node.names}
            self.top = {
                part.targets[0].id if isinstance(part, ast.Assign) else part.name for part in tree.body
                if isinstance(part, (ast.FunctionDef, ast.ClassDef))
                or isinstance(part, ast.Assign) and isinstance(part.targets[0], ast.Name)
            }
            self.look_at_file(name, self.texts[name])
            self.look_at_signs(self.texts[name])
            self.look_at_top(tree)
            self.look_at_imports(tree)
            for node in ast.walk(tree):
                self.look_at_form(node)
                self.look_at_function(node)
                self.look_at_class(node)
                self.look_at_name(node)
                self.look_at_call(node)
                self.look_at_attribute(node)
                self.look_at_set(node)
                self.look_at_number(node)
                self.look_at_walk(node)
                self.look_at_error(node)
        self.look_at_circles()
        return self.faults

    def look_at_file(self, name, text):
        stem = name[:-3]
        if not re.fullmatch(r"[A-Za-z0-9_]+\.py", name):
            self.fault("L1")
        not_to_be = {"test", "tests", "testing", "site", "conftest", "sitecustomize", "usercustomize", *FILE_WORDS}
        if not re.fullmatch(r"[a-z][a-z0-9_]*|__init__|__main__", stem) or stem in not_to_be | set(dir(builtins)):
            self.fault("L14")
        if stem.startswith("test_"):
            self.fault("L14")
        rows = text.split("\n")
        if len(rows) > 401 or max(map(len, rows)) > 120 or "\t" in text:
            self.fault("L10")

    def look_at_signs(self, text):
        if not re.fullmatch(r"[ -~\n]*", text):
            self.fault("L14")
        if WORDS.search(text):
            self.fault("L17")
        for token in tokenize.generate_tokens(io.StringIO(text).readline):
            if token.type == tokenize.STRING:
                escaped = re.search(r"\\[^nt\\'\"]", token.string.replace("\\\\", ""))
                if escaped or re.match(r"[A-Za-z]*[rbuRBU]", token.string):
                    self.fault("L27")

    def look_at_top(self, tree):
        bound, others = [], False
        for part in tree.body:
            text = isinstance(part, ast.Expr) and isinstance(getattr(part.value, "value", None), str)
            if isinstance(part, ast.ImportFrom):
                if others:
                    self.fault("L2", part)
                bound += [alias.asname or alias.name for alias in part.names]
                continue
            others = others or not text
            if isinstance(part, (ast.FunctionDef, ast.ClassDef)):
                bound.append(part.name)
            elif isinstance(part, ast.Assign) and isinstance(part.targets[0], ast.Name):
                bound.append(part.targets[0].id)
                if not self.plain(part.value):
                    self.fault("L3", part)
                if any(isinstance(node, (ast.List, ast.Dict)) for node in ast.walk(part.value)):
                    self.fault("L15", part)
            elif not text:
                self.fault("L3", part)
        if len(bound) != len(set(bound)):
            self.fault("L15", tree)
        if self.name == "__init__.py" and {name + ".py" for name in bound} & set(self.texts):
            self.fault("L16", tree)

    def plain(self, value):
        if isinstance(value, ast.UnaryOp) and isinstance(value.op, ast.USub):
            return isinstance(value.operand, ast.Constant)
        if isinstance(value, (ast.Tuple, ast.List)):
            return all(self.plain(part) for part in value.elts)
        if isinstance(value, ast.Dict):
            return all(self.plain(part) for part in value.keys + value.values)
        return isinstance(value, ast.Constant)

    def look_at_imports(self, tree):
        for node in self.drawn:
            if self.parents[node] is not tree or node.level or any(alias.name == "*" for alias in node.names):
                self.fault("L2", node)
                continue
            module, _, inner = (node.module or "").partition(".")
            if module != self.package or inner in ("", "__main__"):
                self.fault("L2", node)
            elif inner + ".py" not in self.texts:
                self.fault("L16", node)
            else:
                defined = set()
                for part in self.trees[inner + ".py"].body:
                    if isinstance(part, (ast.FunctionDef, ast.ClassDef)):
                        defined.add(part.name)
                    elif isinstance(part, ast.Assign) and isinstance(part.targets[0], ast.Name):
                        defined.add(part.targets[0].id)
                if any(alias.name not in defined or alias.asname for alias in node.names):
                    self.fault("L16", node)

    def look_at_circles(self):
        left = {}
        for name, tree in self.trees.items():
            drawn = [node.module or "" for node in ast.walk(tree) if isinstance(node, ast.ImportFrom)]
            left[name] = {module.partition(".")[2] + ".py" for module in drawn} | ({"__init__.py"} if drawn else set())
        while left:
            free = [name for name, drawn in left.items() if not drawn & set(left)]
            if not free:
                self.name = sorted(left)[0]
                return self.fault("L16")
            left = {name: drawn for name, drawn in left.items() if name not in free}

    def look_at_form(self, node):
        if isinstance(node, ast.stmt) and not isinstance(node, STATEMENTS):
            self.fault({ast.Import: "L16", ast.AnnAssign: "L21"}.get(type(node), "L6"), node)
        if isinstance(node, ast.expr) and not isinstance(node, EXPRESSIONS) or isinstance(node, (ast.Div, ast.MatMult)):
            self.fault("L7", node)
        if isinstance(node, (ast.For, ast.While)) and node.orelse or isinstance(node, ast.Try) and node.finalbody:
            self.fault("L6", node)
        if isinstance(node, ast.Assign):
            if len(node.targets) != 1 or isinstance(node.targets[0], (ast.Tuple, ast.List)):
                self.fault("L6", node)
        if isinstance(node, ast.Expr) and not isinstance(node.value, (ast.Call, ast.Constant)):
            self.fault("L6", node)
        if isinstance(node, ast.ListComp) and (len(node.generators) > 1 or len(node.generators[0].ifs) > 1):
            self.fault("L7", node)
        if isinstance(node, ast.FormattedValue):
            if not isinstance(node.value, ast.Name) or node.conversion not in (-1, ord("r")) or node.format_spec:
                self.fault("L7", node)
        if isinstance(node, ast.Constant) and not isinstance(node.value, (int, str, type(None))):
            self.fault("L7", node)
        if isinstance(node, ast.Compare):
            sides = [node.left] + node.comparators
            for place, op in enumerate(node.ops):
                here = [side.value for side in sides[place:place + 2] if isinstance(side, ast.Constant)]
                plain = any(value is None or isinstance(value, bool) for value in here)
                if isinstance(op, (ast.Is, ast.IsNot)) and not plain:
                    self.fault("L20", node)

    def look_at_function(self, node):
        if not isinstance(node, (ast.FunctionDef, ast.Lambda)):
            return
        given = node.args
        if given.vararg or given.kwarg or given.kwonlyargs or given.posonlyargs:
            self.fault("L4", node)
        if not all(self.plain(value) and not isinstance(value, (ast.List, ast.Dict)) for value in given.defaults):
            self.fault("L4", node)
        if isinstance(node, ast.Lambda):
            every = [other for other in ast.walk(self.trees[self.name]) if isinstance(other, ast.Lambda)]
            forms = [ast.dump(other.args) for other in every if other.lineno == node.lineno]
            return self.fault("L13", node) if forms.count(ast.dump(given)) > 1 else None
        if node.decorator_list:
            self.fault("L4", node)
        if node.returns or any(arg.annotation for arg in given.args):
            self.fault("L21", node)
        if node.end_lineno - node.lineno + 1 > 40:
            self.fault("L10", node)
        if any(called_name(part) == node.name for part in ast.walk(node)):
            self.fault("L11", node)
        method = isinstance(self.parents[node], ast.ClassDef)
        if node.name.startswith("__") and not (method and node.name in SAME):
            self.fault("L8", node)
        if method and node.name in SAME - {"__init__"}:
            self.fault("L28", node)
        if node.name == "__init__" and any(isinstance(part, ast.Return) and part.value for part in ast.walk(node)):
            self.fault("L28", node)
        if not method and (node.name in NO_NAMES or node.name in dir(builtins)):
            self.fault("L17" if node.name in NO_NAMES else "L8", node)
        if not method and isinstance(self.parents[node], ast.FunctionDef) and node.name in self.imported | self.classes:
            self.fault("L15", node)
        if not re.fullmatch(r"[A-Za-z][A-Za-z0-9_]*", node.name) and node.name not in SAME:
            self.fault("L12", node)

    def look_at_class(self, node):
        if not isinstance(node, ast.ClassDef):
            return
        if not isinstance(self.parents[node], ast.Module):
            self.fault("L15", node)
        bases = [base.id if isinstance(base, ast.Name) else "" for base in node.bases]
        if len(bases) > 1 or node.keywords or node.decorator_list:
            self.fault("L5", node)
        if any(base not in self.classes | ERRORS for base in bases):
            self.fault("L5", node)
        if {"StopIteration", "AttributeError"} & set(bases):
            self.fault("L18", node)
        for part in node.body:
            text = isinstance(part, ast.Expr) and isinstance(part.value, ast.Constant)
            if not isinstance(part, (ast.FunctionDef, ast.Pass)) and not text:
                self.fault("L5", part)
        names = [part.name for part in node.body if isinstance(part, ast.FunctionDef)]
        if len(names) != len(set(names)):
            self.fault("L18", node)
        if any(name in PYTHONS - METHODS - SAME - {"add", "discard"} for name in names):
            self.fault("L26", node)

    def look_at_name(self, node):
        if isinstance(node, ast.arg):
            name, bound = node.arg, True
        elif isinstance(node, ast.Name):
            name, bound = node.id, isinstance(node.ctx, ast.Store)
        else:
            return
        if not re.fullmatch(r"[A-Za-z][A-Za-z0-9_]*", name):
            self.fault("L12", node)
        if name in NO_NAMES or FRAMES.fullmatch(name):
            self.fault("L17", node)
        elif name == "print" or name in ("stdin", "stdout"):
            self.fault("L9", node)
        elif name == "chr":
            self.fault("L27", node)
        elif bound and name in dir(builtins):
            self.fault("L15", node)
        elif not bound and name in dir(builtins) and name not in CALLED | ERRORS:
            self.fault("L8", node)
        if bound and name in self.imported | self.classes:
            self.fault("L15", node)
        if not bound and name in self.classes:
            self.look_at_use_of_class(node)
        if not bound and name in CALLED:
            self.look_at_use_of_python(node)

    def look_at_use_of_class(self, node):
        parent = self.parents[node]
        asked = called_name(parent) == "isinstance" and node in parent.args[1:]
        named = isinstance(parent, (ast.ClassDef, ast.ExceptHandler, ast.Raise))
        if not (called_name(parent) == node.id or asked or named):
            self.fault("L18", node)

    def look_at_use_of_python(self, node):
        parent = self.parents[node]
        while isinstance(parent, ast.Tuple):
            parent = self.parents[parent]
        if isinstance(parent, ast.Call) and parent.func is node or called_name(parent) == "isinstance":
            return
        if not (isinstance(parent, ast.keyword) and parent.arg == "key" and node.id in KEYS):
            self.fault("L22", node)

    def look_at_call(self, node):
        if not isinstance(node, ast.Call):
            return
        name = called_name(node)
        words = {keyword.arg for keyword in node.keywords}
        method = isinstance(node.func, ast.Attribute) and node.func.attr in METHODS
        if (name in CALLED | ERRORS or method) and words - KEYWORDS.get(name, set()):
            self.fault("L22", node)
        if name == "isinstance" and len(node.args) != 2:
            self.fault("L22", node)
        if None in words or any(isinstance(arg, ast.Starred) for arg in node.args):
            self.fault("L7", node)
        walked = name in WALKED or isinstance(node.func, ast.Attribute) and node.func.attr in WALKED_METHODS
        if walked and not self.is_walked(node):
            self.fault("L23", node)

    def is_walked(self, node):
        parent = self.parents[node]
        if isinstance(parent, (ast.For, ast.comprehension)):
            return parent.iter is node
        if isinstance(parent, ast.Call) and parent.args and node in parent.args:
            if called_name(parent) == "zip" or called_name(parent) in WALKERS and parent.args[0] is node:
                return True
            if called_name(parent) in ("min", "max"):
                return len(parent.args) == 1
            written = isinstance(parent.func, ast.Attribute) and isinstance(parent.func.value, ast.Constant)
            return written and parent.func.attr == "join"
        return False

    def look_at_attribute(self, node):
        if not isinstance(node, ast.Attribute):
            return
        parent = self.parents[node]
        if node.attr in NOWHERE or FRAMES.fullmatch(node.attr):
            self.fault("L17", node)
        if node.attr in ("format", "format_map", "mro"):
            self.fault("L8", node)
        if node.attr.startswith("_") and node.attr != "__init__":
            self.fault("L12", node)
        if isinstance(node.ctx, ast.Store):
            if not isinstance(node.value, ast.Name) or node.value.id in self.top | self.imported | self.classes:
                self.fault("L18", node)
            if node.attr in self.methods:
                self.fault("L18", node)
            if node.attr in PYTHONS - FREE_VALUES:
                self.fault("L26", node)
        elif isinstance(parent, ast.Call) and parent.func is node:
            if node.attr not in METHODS | self.methods:
                self.fault("L25", node)
        elif node.attr in METHODS - FREE_VALUES | self.methods:
            if not (isinstance(parent, ast.keyword) and parent.arg == "key"):
                self.fault("L25", node)

    def look_at_set(self, node):
        if isinstance(node, ast.Set):
            parent = self.parents[node]
            if not (isinstance(parent, ast.Compare) and isinstance(parent.ops[-1], (ast.In, ast.NotIn))):
                self.fault("L13", node)
        if called_name(node) not in ("set", "frozenset"):
            return
        part, parent = node, self.parents[node]
        while isinstance(parent, ast.BinOp) and is_set(parent):
            part, parent = parent, self.parents[parent]
        if isinstance(parent, ast.Compare) and len(parent.ops) == 1:
            sides = [parent.left] + parent.comparators
            right = isinstance(parent.ops[0], (ast.In, ast.NotIn)) and sides[1] is part
            if right or isinstance(parent.ops[0], (ast.Eq, ast.NotEq)) and all(map(is_set, sides)):
                return
        if called_name(parent) in ("sorted", "len") and parent.args == [part] and not parent.keywords:
            return
        self.fault("L24", node)

    def look_at_number(self, node):
        power = isinstance(node, ast.AugAssign) or isinstance(node, ast.BinOp)
        if power and isinstance(node.op, ast.Pow):
            right = node.value if isinstance(node, ast.AugAssign) else node.right
            if not (isinstance(right, ast.Constant) and isinstance(right.value, int) and 0 <= right.value <= 64):
                self.fault("L27", node)
        if isinstance(node, ast.Constant) and isinstance(node.value, str) and "%" in node.value:
            self.fault("L27", node)
        if isinstance(node, ast.Constant) and type(node.value) is int and node.value >= 10 ** 900:
            self.fault("L27", node)

    def look_at_walk(self, node):
        if not isinstance(node, ast.For):
            return
        walked = walked_part(node.iter)
        for part in [part for row in node.body for part in ast.walk(row)]:
            changed = None
            if isinstance(part, ast.Call) and isinstance(part.func, ast.Attribute) and part.func.attr in CHANGING:
                changed = part.func.value
            if isinstance(part, ast.Subscript) and isinstance(part.ctx, ast.Store):
                changed = part.value
            if changed is not None and ast.dump(changed) == walked:
                self.fault("L23", part)

    def look_at_error(self, node):
        if isinstance(node, ast.ExceptHandler):
            names = [node.type] if isinstance(node.type, ast.Name) else getattr(node.type, "elts", [None])
            good = self.classes | {"KeyError", "ZeroDivisionError", "StopIteration"}
            if not all(isinstance(name, ast.Name) and name.id in good for name in names):
                self.fault("L19", node)
        if isinstance(node, ast.Raise) and called_name(node.exc) not in self.classes | ERRORS:
            self.fault("L19", node)


def faults_of(text, name="bad.py", **others):
    texts = {"__init__.py": "", "other.py": "ONE = 1\n\n\ndef twice(x):\n    return x + x\n\n\nclass Box:\n    pass\n"}
    texts.update({stem + ".py": other for stem, other in others.items()})
    texts[name] = text
    return {rule for rule, _ in Checker(texts).run()}


def inside(*rows):
    """These rows as a function's."""
    return "def work(x, xs, d):\n" + "".join(f"    {row}\n" for row in rows)


class ThePackage(unittest.TestCase):
    def test_nothing_else_lies_in_it(self):
        names = [path.name for path in PACKAGE.iterdir() if path.name != "__pycache__"]
        self.assertEqual([name for name in names if not name.endswith(".py")], [])
        self.assertIn("__init__.py", names)
        self.assertTrue(all((PACKAGE / name).is_file() for name in names))

    def test_it_keeps_to_the_rules(self):
        texts = {path.name: path.read_bytes().decode("utf-8") for path in sorted(PACKAGE.glob("*.py"))}
        self.assertGreater(len(texts), 5)
        self.assertEqual(Checker(texts).run(), [])


class TheChecker(unittest.TestCase):
    """That each rule's breach is seen, and what the rules allow is not taken for one."""

    def test_what_is_allowed(self):
        right = [
            "'''A text.'''\n\nfrom watchtowers.other import ONE, twice\n\nTWO = 2\nROWS = (1, (-2, 'a'), None)\n",
            inside("y = [twice for twice in xs if twice > 1]", "return sorted(set(xs) | set(y))"),
            inside("for k, v in d.items():", "    x.append(k + v)", "return x"),
            inside("for k in range(len(xs)):", "    x[k] = xs[k] << 1", "return max(x, default=0)"),
            inside("if x in {1, 2, 3} or x is None or set(xs) == set(d):", "    return x ** 2", "return len(set(xs))"),
            inside("return sorted(xs, key=lambda one: one[0], reverse=True)"),
            inside("try:", "    return d[x]", "except KeyError:", "    return f'{x} {xs!r}'"),
            "from watchtowers.other import Box\n\n\nclass Bag(Box):\n    def __init__(self):\n        self.rows = []\n"
            "\n    def add(self, x):\n        self.rows.append(x)\n\n\ndef bag():\n    return Bag()\n",
        ]
        for text in right:
            self.assertEqual(faults_of(text), set(), text)

    def check(self, rule, *texts):
        for text in texts:
            self.assertIn(rule, faults_of(text), text)

    def test_files_and_imports(self):
        self.assertIn("L1", faults_of("", "a-b.py"))
        for name in ("Big.py", "tests.py", "test_a.py", "filter.py", "enum.py", "1a.py"):
            self.assertIn("L14", faults_of("", name), name)
        self.check("L14", "# caf\u00e9\n", "X = 1\r\n")
        self.check(
            "L2", "from os import path\n", "from .other import twice\n", "from watchtowers.other import *\n",
            "X = 1\nfrom watchtowers.other import twice\n", inside("from watchtowers.other import twice"),
            "from watchtowers.__main__ import twice\n", "from watchtowers import other\n",
        )
        self.check(
            "L16", "import watchtowers.other\n", "from watchtowers.other import three\n",
            "from watchtowers.other import twice as two\n", "from watchtowers.nowhere import twice\n",
        )
        circle = faults_of("from watchtowers.more import b\n\nA = 1\n", more="from watchtowers.bad import A\n\nb = 2\n")
        self.assertIn("L16", circle)
        self.assertIn("L16", faults_of("other = 1\n", "__init__.py"))

    def test_the_top(self):
        self.check("L3", "X = len('a')\n", "for x in (1, 2):\n    pass\n", "X = [1]\nX.append(2)\n", "X = 1 + 2\n")
        self.check("L15", "X = 1\nX = 2\n", "X = [1]\n", "X = {1: 2}\n", inside("class A:", "    pass"))
        self.check("L15", "from watchtowers.other import twice\n\n\ndef f(twice):\n    return twice\n")
        self.check("L15", inside("next = 1"), inside("for hash in xs:", "    pass"), "def f(min):\n    return min\n")
        self.check("L10", inside(*["x = 1"] * 40), "# a\n" * 401, "# " + "a" * 119 + "\n", "X = (\n\t1,\n)\n")

    def test_functions_and_classes(self):
        self.check("L4", "def f(*a):\n    pass\n", "def f(**a):\n    pass\n", "def f(*, a):\n    pass\n")
        self.check("L4", "def f(a=[]):\n    pass\n", "def g(a):\n    pass\n\n\n@g\ndef f(a):\n    pass\n")
        self.check("L5", "class A:\n    x = 1\n", "class A(int):\n    pass\n")
        self.check("L5", "class A(KeyError, ValueError):\n    pass\n")
        self.check("L11", "def f(x):\n    return f(x)\n")
        self.check("L12", inside("_ = x"), "def f(_x):\n    pass\n", "def _f():\n    pass\n", inside("return x._y"))
        self.check("L8", "def __f():\n    pass\n", inside("return round(x)"), inside("return x.format(1)"))
        self.check("L8", "def len(x):\n    return 1\n", inside("return map(x, xs)"))
        self.check("L18", "class A:\n    pass\n\n\nX = 1\n\n\ndef f():\n    return A\n")
        self.check("L18", "class A:\n    pass\n\n\ndef f():\n    A.x = 1\n", "class A(StopIteration):\n    pass\n")
        self.check("L18", "class A:\n    def f(self):\n        pass\n\n    def f(self):\n        pass\n")
        self.check("L18", "class A:\n    def f(self):\n        pass\n\n    def g(self):\n        self.f = 1\n")
        self.check("L21", "def f(x: int):\n    pass\n", "def f(x) -> int:\n    pass\n", "X: int = 1\n")
        self.check("L26", "class A:\n    def sort(self):\n        pass\n")
        self.check("L26", "class A:\n    def f(self):\n        self.keys = 1\n")
        self.check("L28", "class A:\n    def __init__(self):\n        return None\n")
        self.check("L28", "class A:\n    def __len__(self):\n        return 1\n")

    def test_statements_and_values(self):
        self.check(
            "L6", inside("a = b = x"), inside("a, b = x"), inside("del x"), inside("assert x"), inside("global y"),
            inside("for a in xs:", "    pass", "else:", "    pass"), inside("with x:", "    pass"), inside("x == 1"),
            inside("try:", "    pass", "finally:", "    pass"),
        )
        self.check(
            "L7", inside("return x / 2"), inside("return 1.5"), inside("return b'a'"), inside("return {a for a in xs}"),
            inside("return {a: 1 for a in xs}"), inside("return sum(a for a in xs)"), inside("return (y := x)"),
            inside("return [*xs]"), inside("return [a for b in xs for a in b]"), inside("yield x"),
            inside("return [a for a in xs if a if x]"), inside("return f'{x + 1}'"), inside("return f'{x:3}'"),
        )
        self.check("L9", inside("print(x)"))
        self.check("L13", inside("y = {1, 2, 3}"), inside("return [lambda a: a, lambda a: 1]"))
        self.check("L17", "# the type of it\n", "X = 'Flag'\n", "# predataclassed\n", inside("open = 1"))
        self.check("L17", inside("return getattr(x, 'y')"), inside("x.register(1)"), inside("return x.f_back"))
        self.check("L19", inside("try:", "    return x", "except Exception:", "    return 1"), inside("raise x"))
        self.check("L19", inside("try:", "    return x", "except:", "    return 1"))
        self.check("L20", inside("return x is xs"), inside("return x is not 1"))
        self.check("L22", inside("return sorted(xs, key=ord)"), inside("y = len"), inside("return xs.index(x=1)"))
        self.check("L22", inside("return int('1', base=2)"))
        self.check(
            "L23", inside("y = range(x)"), inside("return d.items()"), inside("return zip(xs, xs)"),
            inside("return x in range(3)"), inside("for a in xs:", "    xs.append(a)"),
            inside("for k, a in enumerate(xs):", "    xs[k] = a"), inside("for k in d.keys():", "    d.pop(k)"),
        )
        self.check("L24", inside("y = set(xs)"), inside("for a in set(xs):", "    pass"))
        self.check("L24", inside("return set(xs).pop()"), inside("return list(set(xs))"))
        self.check("L24", inside("return sorted(set(xs), key=len)"))
        self.check("L25", inside("xs.sort()"), inside("return x.title()"), inside("y = xs.append"))
        self.check("L27", inside("return 2 ** x"), inside("return x ** 65"), inside("return chr(x)"))
        self.check("L27", "X = 'a%'\n", "X = '\\x41'\n", "X = " + "1" * 901 + "\n")
