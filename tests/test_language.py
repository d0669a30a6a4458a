"""The rules of ../shared/LANGUAGE.md that can be seen in the text of the package."""

import ast
import builtins
import re
import unittest
from pathlib import Path

PACKAGE = Path(__file__).resolve().parent.parent / "watchtowers"
BUILT_IN = set(
    "len range enumerate zip min max sum abs sorted reversed int str bool list tuple dict set frozenset isinstance "
    "ord repr any all divmod Exception ValueError TypeError KeyError IndexError LookupError ZeroDivisionError "
    "ArithmeticError OverflowError RuntimeError NotImplementedError".split()
)
METHODS = set(
    "append clear copy count endswith extend find get index insert isalnum isalpha isdigit islower isspace isupper "
    "items join keys ljust lower lstrip partition pop remove replace reverse rfind rjust rpartition rsplit rstrip "
    "setdefault split splitlines startswith strip update upper values zfill bit_length".split()
)
NO_VALUES = set("items keys values pop update append clear extend insert remove reverse setdefault sort args".split())
NO_WORDS = re.compile(
    r"\b(type|typing|typing_extensions|enum|Enum|IntEnum|StrEnum|Flag|IntFlag|Generic|Protocol|ABC|ABCMeta|namedtuple"
    r"|NamedTuple|TypedDict|TYPE_CHECKING|abstractmethod)\b|dataclass|overload|contextmanager"
)
NO_NAMES = set(
    "register mro elements open input version_info with_traceback add_note attrgetter breakpoint builtins compile "
    "copyright credits delattr dir eval exec exit gc getattr globals hasattr help id importlib license locals "
    "methodcaller os quit setattr super vars sys __name__ format format_map chr".split()
)
NODES = (
    ast.Module, ast.ImportFrom, ast.alias, ast.FunctionDef, ast.arguments, ast.arg, ast.ClassDef, ast.Return,
    ast.Assign, ast.AugAssign, ast.For, ast.While, ast.If, ast.Break, ast.Continue, ast.Pass, ast.Expr, ast.BoolOp,
    ast.BinOp, ast.UnaryOp, ast.IfExp, ast.Compare, ast.Call, ast.Constant, ast.Attribute, ast.Subscript, ast.Slice,
    ast.Name, ast.List, ast.Tuple, ast.Dict, ast.ListComp, ast.comprehension, ast.expr_context, ast.boolop,
    ast.operator, ast.unaryop, ast.cmpop,
)
NO_NODES = (ast.Div, ast.MatMult, ast.Pow, ast.Is, ast.IsNot)


def plain(value):
    if isinstance(value, ast.UnaryOp):
        return isinstance(value.op, ast.USub) and plain(value.operand)
    if isinstance(value, (ast.Tuple, ast.List)):
        return all(plain(part) for part in value.elts)
    return isinstance(value, ast.Constant) and isinstance(value.value, (int, str, type(None)))


class Language(unittest.TestCase):
    def setUp(self):
        self.texts = {path.name: path.read_text(encoding="utf-8") for path in sorted(PACKAGE.glob("*.py"))}
        self.trees = {name: ast.parse(text) for name, text in self.texts.items()}

    def nodes(self):
        for name, tree in self.trees.items():
            for node in ast.walk(tree):
                yield f"{name}:{getattr(node, 'lineno', 0)}", node

    def drawn(self, name):
        return [node for node in self.trees[name].body if isinstance(node, ast.ImportFrom)]

    def test_files(self):
        others = [p.name for p in PACKAGE.iterdir() if p.name not in self.texts and p.name != "__pycache__"]
        self.assertEqual(others, [])
        self.assertIn("__init__.py", self.texts)
        for name in self.texts:
            self.assertRegex(name, r"^([a-z][a-z0-9_]*|__init__)\.py$")
            self.assertNotIn(name[:-3], dir(builtins))

    def test_signs_words_and_sizes(self):
        for name, text in self.texts.items():
            rows = text.split("\n")
            self.assertLessEqual(len(rows), 400)
            self.assertRegex(text, r"\A[ -~\n]*\Z", name)
            self.assertIsNone(NO_WORDS.search(text), name)
            self.assertLessEqual(max(len(row) for row in rows), 120, name)
        for place, node in self.nodes():
            if isinstance(node, ast.FunctionDef):
                self.assertLessEqual(node.end_lineno - node.lineno + 1, 40, place)

    def test_statements_and_expressions(self):
        for place, node in self.nodes():
            self.assertIsInstance(node, NODES, place)
            self.assertNotIsInstance(node, NO_NODES, place)
            if isinstance(node, (ast.For, ast.While)):
                self.assertEqual(node.orelse, [], place)
            if isinstance(node, ast.Assign):
                self.assertEqual(len(node.targets), 1, place)
                self.assertNotIsInstance(node.targets[0], (ast.Tuple, ast.List), place)
            if isinstance(node, ast.ListComp):
                self.assertEqual(len(node.generators), 1, place)
                self.assertLessEqual(len(node.generators[0].ifs), 1, place)
            if isinstance(node, ast.FunctionDef):
                given = node.args
                self.assertFalse(node.decorator_list or given.vararg or given.kwarg or given.kwonlyargs, place)

    def test_top_of_a_module(self):
        for name, tree in self.trees.items():
            bound = []
            for node in tree.body:
                if isinstance(node, ast.Assign):
                    self.assertTrue(plain(node.value), name)
                    bound.append(node.targets[0].id)
                elif isinstance(node, (ast.FunctionDef, ast.ClassDef)):
                    bound.append(node.name)
                else:
                    text = isinstance(node, ast.Expr) and isinstance(node.value, ast.Constant)
                    self.assertTrue(text or isinstance(node, ast.ImportFrom), name)
            bound += [alias.name for node in self.drawn(name) for alias in node.names]
            self.assertEqual(len(bound), len(set(bound)), name)

    def test_imports(self):
        for name in self.trees:
            for node in self.drawn(name):
                module, inner = node.module.split(".")
                self.assertEqual((module, node.level), ("watchtowers", 0))
                defined = [
                    part.targets[0].id if isinstance(part, ast.Assign) else part.name
                    for part in self.trees[inner + ".py"].body
                    if isinstance(part, (ast.Assign, ast.FunctionDef, ast.ClassDef))
                ]
                for alias in node.names:
                    self.assertIn(alias.name, defined, name)
                    self.assertIsNone(alias.asname, name)

    def test_no_two_files_draw_from_one_another(self):
        left = {name: {node.module.split(".")[1] + ".py" for node in self.drawn(name)} for name in self.trees}
        while left:
            free = [name for name, drawn in left.items() if not drawn & set(left)]
            self.assertTrue(free, left)
            left = {name: drawn for name, drawn in left.items() if name not in free}

    def test_names(self):
        for name, tree in self.trees.items():
            taken = {alias.name for node in self.drawn(name) for alias in node.names}
            taken |= {node.name for node in tree.body if isinstance(node, ast.ClassDef)} | set(dir(builtins))
            for node in ast.walk(tree):
                place = f"{name}:{getattr(node, 'lineno', 0)}"
                if isinstance(node, ast.Name):
                    self.assertRegex(node.id, r"^[A-Za-z][A-Za-z0-9_]*$", place)
                    self.assertNotIn(node.id, NO_NAMES, place)
                    if isinstance(node.ctx, ast.Store):
                        self.assertNotIn(node.id, taken, place)
                    elif node.id in dir(builtins):
                        self.assertIn(node.id, BUILT_IN, place)
                if isinstance(node, ast.arg):
                    self.assertNotIn(node.arg, taken | NO_NAMES, place)
                if isinstance(node, ast.FunctionDef) and node.name != "__init__":
                    self.assertRegex(node.name, r"^[a-z][a-z0-9_]*$", place)

    def test_methods_and_values(self):
        methods = {
            part.name for _, node in self.nodes() if isinstance(node, ast.ClassDef) for part in node.body
            if isinstance(part, ast.FunctionDef)
        }
        called = {id(node.func) for _, node in self.nodes() if isinstance(node, ast.Call)}
        for place, node in self.nodes():
            if isinstance(node, ast.Attribute):
                self.assertNotIn(node.attr, NO_NAMES, place)
                if id(node) in called:
                    self.assertIn(node.attr, METHODS | methods, place)
                else:
                    self.assertNotIn(node.attr, methods | NO_VALUES, place)
