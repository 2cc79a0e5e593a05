"""The package keeps to the part of Python that it is held to, as far as that can be seen in its tree."""

import ast
import builtins
import os
import re
import unittest

ROOT = os.path.dirname(os.path.dirname(os.path.abspath(__file__)))
PACKAGE = os.path.join(ROOT, "brokenlines")

FUNCTIONS = """len range enumerate zip min max sum abs sorted reversed int str bool list tuple dict set frozenset
isinstance ord repr any all divmod""".split()
ERRORS = """Exception ValueError TypeError KeyError IndexError LookupError ZeroDivisionError ArithmeticError
OverflowError RuntimeError NotImplementedError AttributeError StopIteration""".split()
METHODS = """append clear copy count endswith extend find get index insert isalnum isalpha isdigit islower isspace
isupper items join keys ljust lower lstrip partition pop remove replace reverse rfind rjust rpartition rsplit rstrip
setdefault split splitlines startswith strip update upper values zfill bit_length""".split()
NOT_NAMES = """register mro elements open input version_info with_traceback add_note attrgetter breakpoint builtins
compile copyright credits delattr dir eval exec exit gc getattr globals hasattr help id importlib license locals
methodcaller os quit setattr super type vars sys chr""".split()
NOT_WORDS = """type typing typing_extensions enum Enum IntEnum StrEnum Flag IntFlag Generic Protocol ABC ABCMeta
namedtuple NamedTuple TypedDict TYPE_CHECKING abstractmethod""".split()
FREE_VALUES = "count index title find get join lower upper split strip copy add".split()
NODES = (
    ast.Module, ast.Expr, ast.Assign, ast.AugAssign, ast.If, ast.While, ast.For, ast.Return, ast.Break, ast.Continue,
    ast.Pass, ast.Raise, ast.Try, ast.ExceptHandler, ast.FunctionDef, ast.ClassDef, ast.ImportFrom, ast.alias,
    ast.arguments, ast.arg, ast.Constant, ast.Name, ast.Load, ast.Store, ast.List, ast.Tuple, ast.Dict, ast.BinOp,
    ast.UnaryOp, ast.Compare, ast.BoolOp, ast.IfExp, ast.Call, ast.Attribute, ast.Subscript, ast.Slice, ast.ListComp,
    ast.comprehension, ast.Lambda, ast.keyword, ast.operator, ast.unaryop, ast.cmpop, ast.boolop,
)
WALKED = ("zip", "enumerate", "reversed", "range")
WALKERS = ("list", "tuple", "dict", "sorted", "sum", "any", "all", "enumerate", "zip", "min", "max")


def files():
    found = []
    for name in sorted(os.listdir(PACKAGE)):
        if name != "__pycache__":
            found.append(name)
    return found


def source(name):
    with open(os.path.join(PACKAGE, name), encoding="ascii") as handle:
        return handle.read()


def tree(name):
    return ast.parse(source(name))


def plain(node):
    if isinstance(node, ast.Constant):
        return isinstance(node.value, (int, str, bool)) or node.value is None
    if isinstance(node, (ast.Tuple, ast.List)):
        return all(plain(part) for part in node.elts)
    if isinstance(node, ast.Dict):
        return all(plain(part) for part in node.keys + node.values)
    return False


class LanguageTest(unittest.TestCase):
    def test_files(self):
        self.assertIn("__init__.py", files())
        for name in files():
            self.assertRegex(name, r"^[a-z0-9_]+\.py$")
            self.assertNotIn(name[:-3], dir(builtins))

    def test_size_and_signs(self):
        for name in files():
            rows = source(name).split("\n")
            self.assertLessEqual(len(rows), 401, name)
            for number, row in enumerate(rows, 1):
                self.assertLessEqual(len(row), 120, (name, number))
                self.assertRegex(row, r"^[ -~]*$", (name, number))
            for node in ast.walk(tree(name)):
                if isinstance(node, ast.FunctionDef):
                    self.assertLessEqual(node.end_lineno - node.lineno + 1, 40, (name, node.name))

    def test_words(self):
        for name in files():
            text = source(name)
            for word in NOT_WORDS:
                self.assertIsNone(re.search(r"\b%s\b" % word, text), (name, word))
            for word in ("dataclass", "overload", "contextmanager"):
                self.assertNotIn(word, text, name)

    def test_statements_and_values(self):
        for name in files():
            for node in ast.walk(tree(name)):
                self.assertIsInstance(node, NODES, (name, getattr(node, "lineno", None)))
                place = (name, getattr(node, "lineno", None))
                if isinstance(node, ast.Constant):
                    self.assertTrue(node.value is None or type(node.value) in (int, str, bool), place)
                if isinstance(node, (ast.For, ast.While, ast.Try)):
                    self.assertTrue(isinstance(node, ast.Try) or not node.orelse, place)
                if isinstance(node, ast.Try):
                    self.assertFalse(node.finalbody, place)
                if isinstance(node, ast.Assign):
                    self.assertEqual(len(node.targets), 1, place)
                    self.assertNotIsInstance(node.targets[0], (ast.Tuple, ast.List), place)
                if isinstance(node, ast.ListComp):
                    self.assertEqual(len(node.generators), 1, place)
                    self.assertLessEqual(len(node.generators[0].ifs), 1, place)
                if isinstance(node, (ast.FunctionDef, ast.ClassDef)):
                    self.assertFalse(node.decorator_list, place)
                if isinstance(node, ast.Compare):
                    for operator, right in zip(node.ops, node.comparators):
                        if isinstance(operator, (ast.Is, ast.IsNot)):
                            self.assertIsInstance(right, ast.Constant, place)
                if isinstance(node, ast.BinOp):
                    self.assertNotIsInstance(node.op, (ast.Div, ast.MatMult, ast.Pow), place)
                if isinstance(node, ast.Constant) and isinstance(node.value, str):
                    self.assertNotIn("%", node.value, place)

    def test_top_of_modules(self):
        for name in files():
            body = tree(name).body
            self.assertIsInstance(body[0], ast.Expr, name)
            bound = []
            for node in body[1:]:
                place = (name, node.lineno)
                self.assertIsInstance(node, (ast.ImportFrom, ast.Assign, ast.FunctionDef, ast.ClassDef), place)
                if isinstance(node, ast.Assign):
                    self.assertTrue(plain(node.value), place)
                    self.assertNotIsInstance(node.value, ast.List, place)
                    bound.append(node.targets[0].id)
                elif isinstance(node, ast.ImportFrom):
                    bound.extend(alias.name for alias in node.names)
                else:
                    bound.append(node.name)
            self.assertEqual(len(bound), len(set(bound)), name)

    def test_statements_by_themselves_are_calls(self):
        for name in files():
            module = tree(name)
            for node in ast.walk(module):
                if isinstance(node, ast.Expr) and node is not module.body[0]:
                    self.assertIsInstance(node.value, ast.Call, (name, node.lineno))

    def test_imports(self):
        drawn = {}
        for name in files():
            drawn[name] = []
            for node in ast.walk(tree(name)):
                if isinstance(node, ast.ImportFrom):
                    self.assertEqual(node.level, 0)
                    package, _, module = node.module.partition(".")
                    self.assertEqual(package, "brokenlines")
                    drawn[name].append(module + ".py")
                    defined = [part.name if hasattr(part, "name") else part.targets[0].id
                               for part in tree(module + ".py").body
                               if isinstance(part, (ast.FunctionDef, ast.ClassDef, ast.Assign))]
                    for alias in node.names:
                        self.assertIn(alias.name, defined, name)
                        self.assertIsNone(alias.asname)
        reached = {name: set(others) for name, others in drawn.items()}
        for _ in drawn:
            for name in drawn:
                for other in list(reached[name]):
                    reached[name] |= reached[other]
        for name in drawn:
            self.assertNotIn(name, reached[name])

    def test_names(self):
        for name in files():
            module = tree(name)
            taken = [node.name for node in module.body if isinstance(node, ast.ClassDef)]
            for node in module.body:
                if isinstance(node, ast.ImportFrom):
                    taken += [alias.name for alias in node.names]
            for node in ast.walk(module):
                given = []
                if isinstance(node, ast.arg):
                    given.append(node.arg)
                elif isinstance(node, ast.Name) and isinstance(node.ctx, ast.Store):
                    given.append(node.id)
                elif isinstance(node, ast.ExceptHandler) and node.name:
                    given.append(node.name)
                for word in given:
                    self.assertNotIn(word, dir(builtins), (name, node.lineno))
                    self.assertNotIn(word, taken, (name, node.lineno))
                    self.assertFalse(word.startswith("_"), (name, node.lineno))
                if isinstance(node, ast.Name):
                    self.assertNotIn(node.id, NOT_NAMES, (name, node.lineno))
                    if node.id in dir(builtins):
                        self.assertIn(node.id, FUNCTIONS + ERRORS, (name, node.lineno))
                if isinstance(node, ast.Attribute):
                    self.assertNotIn(node.attr, NOT_NAMES, (name, node.lineno))

    def test_methods_and_values(self):
        methods, values, called = set(), set(), set()
        for name in files():
            for node in ast.walk(tree(name)):
                if isinstance(node, ast.ClassDef):
                    own = [part.name for part in node.body if isinstance(part, ast.FunctionDef)]
                    self.assertEqual(len(own), len(set(own)), node.name)
                    methods.update(own)
                if isinstance(node, ast.Attribute) and isinstance(node.ctx, ast.Store):
                    values.add(node.attr)
                    self.assertIsInstance(node.value, ast.Name, (name, node.lineno))
                if isinstance(node, ast.Call) and isinstance(node.func, ast.Attribute):
                    called.add(node.func.attr)
        self.assertEqual(methods & values, set())
        python = set()
        for kind in (str, int, list, dict, set, bytes, tuple, frozenset):
            python.update(dir(kind))
        self.assertEqual((values - set(FREE_VALUES)) & python, set())
        self.assertEqual(methods & python - {"__init__"}, set())
        self.assertEqual(called - methods - set(METHODS) - {"__init__"}, set())

    def test_walked_at_once(self):
        for name in files():
            module = tree(name)
            allowed = set()
            for node in ast.walk(module):
                if isinstance(node, (ast.For, ast.comprehension)):
                    allowed.add(node.iter)
                if isinstance(node, ast.Call) and isinstance(node.func, ast.Name) and node.func.id in WALKERS:
                    allowed.update(node.args[:1])
            for node in ast.walk(module):
                if not isinstance(node, ast.Call):
                    continue
                walked = isinstance(node.func, ast.Name) and node.func.id in WALKED
                walked = walked or isinstance(node.func, ast.Attribute) and node.func.attr in ("items", "keys", "values")
                if walked:
                    self.assertIn(node, allowed, (name, node.lineno))

    def test_keywords(self):
        for name in files():
            for node in ast.walk(tree(name)):
                if isinstance(node, ast.Call) and node.keywords:
                    self.assertIn(node.func.id, ("min", "max", "sorted", "sum", "enumerate", "zip"), (name, node.lineno))


if __name__ == "__main__":
    unittest.main()
