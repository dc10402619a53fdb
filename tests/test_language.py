"""The package keeps to the small part of Python that its rules L1 to L28 allow, as far as its text shows it."""

import ast
import builtins
import pathlib
import re
import unittest

PACKAGE = pathlib.Path(__file__).resolve().parent.parent / "yardbox"

OWN_NAMES = set(
    "len range enumerate zip min max sum abs sorted reversed int str bool list tuple dict set frozenset isinstance ord"
    " repr any all divmod Exception ValueError TypeError KeyError IndexError LookupError ZeroDivisionError"
    " ArithmeticError OverflowError RuntimeError NotImplementedError AttributeError StopIteration".split())

METHODS = set(
    "append clear copy count endswith extend find get index insert isalnum isalpha isdigit islower isspace isupper"
    " items join keys ljust lower lstrip partition pop remove replace reverse rfind rjust rpartition rsplit rstrip"
    " setdefault split splitlines startswith strip update upper values zfill bit_length".split())

VALUES = {name for kind in (str, int, list, dict, set, bytes, tuple) for name in dir(kind)}

WORDS_NOWHERE = re.compile(
    r"\b(type|typing|typing_extensions|enum|Enum|IntEnum|StrEnum|Flag|IntFlag|Generic|Protocol|ABC|ABCMeta|namedtuple"
    r"|NamedTuple|TypedDict|TYPE_CHECKING|abstractmethod)\b|dataclass|overload|contextmanager")

NAMES_NOWHERE = set(
    "register mro elements open input version_info with_traceback add_note attrgetter breakpoint builtins compile"
    " copyright credits delattr dir eval exec exit gc getattr globals hasattr help id importlib license locals"
    " methodcaller os quit setattr super type vars sys format format_map".split())

NODES = (
    ast.Module, ast.FunctionDef, ast.ClassDef, ast.arguments, ast.arg, ast.ImportFrom, ast.alias, ast.Assign,
    ast.AugAssign, ast.If, ast.While, ast.For, ast.Return, ast.Break, ast.Continue, ast.Pass, ast.Raise, ast.Try,
    ast.ExceptHandler, ast.Expr, ast.Constant, ast.Name, ast.Attribute, ast.Subscript, ast.Slice, ast.Call,
    ast.keyword, ast.List, ast.Tuple, ast.Dict, ast.ListComp, ast.comprehension, ast.IfExp, ast.BoolOp, ast.UnaryOp,
    ast.BinOp, ast.Compare, ast.Lambda, ast.JoinedStr, ast.FormattedValue, ast.expr_context, ast.boolop,
    ast.operator, ast.unaryop, ast.cmpop)

WALKED = {"zip", "enumerate", "reversed", "range", "items", "keys", "values"}
WALKERS = {"list", "tuple", "dict", "sorted", "sum", "any", "all", "enumerate", "zip", "min", "max", "join"}


def called(node):
    """The name of what a call calls."""
    return node.func.id if isinstance(node.func, ast.Name) else getattr(node.func, "attr", None)


class Language(unittest.TestCase):
    def setUp(self):
        self.texts = {path.name: path.read_text("ascii") for path in sorted(PACKAGE.glob("*.py"))}
        self.trees = {name: ast.parse(text) for name, text in self.texts.items()}

    def nodes(self, *kinds):
        for name, tree in self.trees.items():
            for node in ast.walk(tree):
                if isinstance(node, kinds):
                    yield node, "%s:%s" % (name, getattr(node, "lineno", 0))

    def test_files(self):
        """L1, L14."""
        names = {path.name for path in PACKAGE.iterdir() if path.name != "__pycache__"}
        self.assertEqual(names, set(self.texts))
        self.assertIn("__init__.py", names)
        for name in names - {"__init__.py"}:
            self.assertRegex(name, r"^[a-z][a-z0-9_]*\.py$")
            self.assertFalse(hasattr(builtins, name[:-3]), name)

    def test_signs_and_sizes(self):
        """L10, L14, L17."""
        for name, text in self.texts.items():
            lines = text.split("\n")
            self.assertLessEqual(len(lines), 400, name)
            for number, line in enumerate(lines, 1):
                self.assertRegex(line, r"^[ -~]{0,120}$", "%s:%d" % (name, number))
                self.assertIsNone(WORDS_NOWHERE.search(line), "%s:%d" % (name, number))
        for node, where in self.nodes(ast.FunctionDef):
            self.assertLessEqual(node.end_lineno - node.lineno + 1, 40, where)

    def test_forms(self):
        """L4 to L7, L13, L20, L21, L24, L27."""
        for node, where in self.nodes(ast.AST):
            self.assertIsInstance(node, NODES, where)
        for node, where in self.nodes(ast.Assign):
            self.assertEqual(len(node.targets), 1, where)
        for node, where in self.nodes(ast.For, ast.While):
            self.assertEqual(node.orelse, [], where)
        for node, where in self.nodes(ast.FunctionDef, ast.ClassDef):
            self.assertEqual(node.decorator_list, [], where)
        for node, where in self.nodes(ast.arguments):
            self.assertEqual((node.vararg, node.kwarg, node.kwonlyargs, node.posonlyargs), (None, None, [], []), where)
        for node, where in self.nodes(ast.ListComp):
            self.assertTrue(len(node.generators) == 1 and len(node.generators[0].ifs) <= 1, where)
        for node, where in self.nodes(ast.BinOp, ast.AugAssign):
            self.assertNotIsInstance(node.op, (ast.Div, ast.MatMult, ast.Pow), where)
        for node, where in self.nodes(ast.Constant):
            self.assertTrue(node.value is None or isinstance(node.value, (int, str)), where)
            self.assertFalse(isinstance(node.value, str) and "%" in node.value, where)
        for node, where in self.nodes(ast.Compare):
            if any(isinstance(op, (ast.Is, ast.IsNot)) for op in node.ops):
                self.assertTrue(all(isinstance(side, ast.Constant) for side in node.comparators), where)

    def test_tops_and_bodies(self):
        """L3, L5, L6, L15."""
        for name, tree in self.trees.items():
            self.assertIsNotNone(ast.get_docstring(tree), name)
            bound = []
            for node in tree.body[1:]:
                self.assertIsInstance(node, (ast.ImportFrom, ast.FunctionDef, ast.ClassDef, ast.Assign), name)
                if isinstance(node, ast.Assign):
                    ast.literal_eval(node.value)
                    bound.append(node.targets[0].id)
                elif isinstance(node, ast.ImportFrom):
                    bound += [alias.name for alias in node.names]
                else:
                    bound.append(node.name)
            self.assertEqual(len(bound), len(set(bound)), name)
        for node, where in self.nodes(ast.ClassDef):
            self.assertTrue(all(isinstance(part, ast.FunctionDef) for part in node.body), where)
        for node, where in self.nodes(ast.FunctionDef):
            for part in ast.walk(node):
                if isinstance(part, ast.Expr):
                    self.assertIsInstance(part.value, ast.Call, where)

    def test_imports(self):
        """L2, L16: from the package's own files alone, each name from the file that defines it, in no ring."""
        drawn = {}
        for name, tree in self.trees.items():
            drawn[name] = []
            for node in ast.walk(tree):
                if isinstance(node, ast.ImportFrom):
                    self.assertRegex(node.module, r"^yardbox\.[a-z0-9_]+$")
                    source = node.module.split(".")[1] + ".py"
                    drawn[name].append(source)
                    defined = [getattr(part, "name", None) or part.targets[0].id for part in self.trees[source].body
                               if isinstance(part, (ast.FunctionDef, ast.ClassDef, ast.Assign))]
                    for alias in node.names:
                        self.assertIn(alias.name, defined)
                        self.assertIsNone(alias.asname)
        left = dict(drawn)
        while left:
            ready = [name for name, sources in left.items() if not any(source in left for source in sources)]
            self.assertNotEqual(ready, [], left)
            left = {name: sources for name, sources in left.items() if name not in ready}

    def test_names(self):
        """L8, L12, L15, L17."""
        for name, tree in self.trees.items():
            drawn = {alias.name for node in tree.body if isinstance(node, ast.ImportFrom) for alias in node.names}
            tops = drawn | {node.name for node in tree.body if isinstance(node, ast.ClassDef)}
            nodes = list(ast.walk(tree))
            bound = {node.arg for node in nodes if isinstance(node, ast.arg)}
            bound |= {node.id for node in nodes if isinstance(node, ast.Name) and isinstance(node.ctx, ast.Store)}
            self.assertEqual(bound & tops, set(), name)
            self.assertEqual({word for word in bound if hasattr(builtins, word)}, set(), name)
            defined = bound | tops | {node.name for node in nodes if isinstance(node, ast.FunctionDef)}
            used = {node.id for node in nodes if isinstance(node, ast.Name)}
            self.assertEqual(used - defined - OWN_NAMES, set(), name)
            self.assertEqual((used | defined) & NAMES_NOWHERE, set(), name)
            for word in defined - {"__init__"}:
                self.assertRegex(word, r"^[A-Za-z][A-Za-z0-9_]*$")

    def test_methods_and_values(self):
        """L18, L25, L26."""
        methods = [node.name for tree in self.trees.values() for top in tree.body if isinstance(top, ast.ClassDef)
                   for node in top.body]
        values = {node.attr for node, _ in self.nodes(ast.Attribute) if isinstance(node.ctx, ast.Store)}
        self.assertEqual(set(methods) & values, set())
        self.assertEqual((set(methods) - {"__init__"} | values) & VALUES, set())
        for node, where in self.nodes(ast.Attribute):
            self.assertTrue(node.attr in values or node.attr in methods or node.attr in METHODS, where)
            self.assertNotIn(node.attr, NAMES_NOWHERE, where)
        calls = {id(node.func) for node, _ in self.nodes(ast.Call)}
        for node, where in self.nodes(ast.Attribute):
            self.assertTrue(node.attr in values or id(node) in calls, where)

    def test_walked_at_once(self):
        """L22, L23."""
        allowed = {id(node.iter) for node, _ in self.nodes(ast.For, ast.comprehension)}
        for node, where in self.nodes(ast.Call):
            if called(node) in WALKERS:
                allowed |= {id(part) for part in node.args}
            own = isinstance(node.func, ast.Name) and node.func.id in OWN_NAMES
            self.assertFalse(own and called(node) not in ("sorted", "min", "max", "sum", "enumerate", "zip")
                             and node.keywords, where)
        for node, where in self.nodes(ast.Call):
            self.assertTrue(called(node) not in WALKED or id(node) in allowed, where)
        for loop, where in self.nodes(ast.For):
            walked = {ast.dump(part) for part in ast.walk(loop.iter) if isinstance(part, (ast.Name, ast.Attribute))}
            for node in [part for line in loop.body for part in ast.walk(line)]:
                changed = None
                if isinstance(node, ast.Call) and called(node) in ("append", "pop", "insert", "extend", "remove"):
                    changed = node.func.value
                if isinstance(node, ast.Subscript) and isinstance(node.ctx, ast.Store):
                    changed = node.value
                self.assertFalse(changed is not None and ast.dump(changed) in walked, where)


if __name__ == "__main__":
    unittest.main()
