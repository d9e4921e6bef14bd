"""Holds the package's files against a part of the rules of form: those that are easily read from the syntax."""

import ast
import builtins
import re
import unittest
from pathlib import Path

PACKAGE = Path(__file__).resolve().parent.parent / "hushcards"

OWN_NAMES = set("""len range enumerate zip min max sum abs sorted reversed int str bool list tuple dict set frozenset
    isinstance ord repr any all divmod Exception ValueError TypeError KeyError IndexError LookupError
    ZeroDivisionError ArithmeticError OverflowError RuntimeError NotImplementedError AttributeError
    StopIteration""".split())
METHODS = set("""append clear copy count endswith extend find get index insert isalnum isalpha isdigit islower isspace
    isupper items join keys ljust lower lstrip partition pop remove replace reverse rfind rjust rpartition rsplit
    rstrip setdefault split splitlines startswith strip update upper values zfill bit_length""".split())
DOUBLE = set("__init__ __eq__ __repr__ __str__ __len__".split())
WORDS = set("""type typing typing_extensions enum Enum IntEnum StrEnum Flag IntFlag Generic Protocol ABC ABCMeta
    namedtuple NamedTuple TypedDict TYPE_CHECKING abstractmethod""".split())
PARTS = ("dataclass", "overload", "contextmanager")
NEVER = set("""register mro elements open input version_info with_traceback add_note format format_map""".split())
LAZY = ("range", "enumerate", "zip", "reversed", "items", "keys", "values")
WALKERS = set("list tuple dict sorted sum any all enumerate zip min max join".split())
CHANGING = set("append clear extend insert pop remove reverse setdefault update add discard".split())
NO_VALUES = set("""items keys values pop update append clear extend insert remove reverse setdefault sort args encode
    format""".split())
KEYWORDS = {"sorted": ("key", "reverse"), "min": ("key", "default"), "max": ("key", "default"), "sum": ("start",),
            "enumerate": ("start",), "zip": ("strict",)}
ASKED = set("int str bool list tuple dict".split())

TOP = (ast.Expr, ast.ImportFrom, ast.FunctionDef, ast.ClassDef, ast.Assign)
STATEMENTS = (ast.FunctionDef, ast.ClassDef, ast.ImportFrom, ast.Assign, ast.AugAssign, ast.If, ast.While, ast.For,
              ast.Return, ast.Break, ast.Continue, ast.Pass, ast.Raise, ast.Try, ast.Expr)
EXPRESSIONS = (ast.Constant, ast.Name, ast.List, ast.Tuple, ast.Dict, ast.Set, ast.BinOp, ast.UnaryOp, ast.BoolOp,
               ast.Compare, ast.IfExp, ast.Call, ast.Attribute, ast.Subscript, ast.Slice, ast.ListComp, ast.Lambda,
               ast.JoinedStr, ast.FormattedValue)


def package_files():
    return sorted(PACKAGE.glob("*.py"))


def bound_names(tree):
    names = []
    for node in ast.walk(tree):
        if isinstance(node, (ast.FunctionDef, ast.ClassDef)):
            names.append(node.name)
        elif isinstance(node, ast.arg):
            names.append(node.arg)
        elif isinstance(node, ast.Name) and isinstance(node.ctx, ast.Store):
            names.append(node.id)
        elif isinstance(node, ast.alias):
            names.append(node.asname or node.name)
        elif isinstance(node, ast.ExceptHandler) and node.name:
            names.append(node.name)
    return names


def method_names(tree):
    classes = [node for node in ast.walk(tree) if isinstance(node, ast.ClassDef)]
    return [part.name for each in classes for part in each.body if isinstance(part, ast.FunctionDef)]


def top_names(tree):
    names = []
    for node in tree.body:
        if isinstance(node, (ast.FunctionDef, ast.ClassDef)):
            names.append(node.name)
        elif isinstance(node, ast.Assign):
            names.extend([target.id for target in node.targets])
        elif isinstance(node, ast.ImportFrom):
            names.extend([alias.asname or alias.name for alias in node.names])
    return names


def walked_names(node):
    """The names of what a loop walks: itself, or through a call that is walked on the spot."""
    if isinstance(node, ast.Name):
        return [node.id]
    if isinstance(node, ast.Call) and isinstance(node.func, ast.Attribute) and node.func.attr in LAZY:
        return walked_names(node.func.value)
    if isinstance(node, ast.Call) and getattr(node.func, "id", "") in ("enumerate", "zip", "reversed"):
        return [name for part in node.args for name in walked_names(part)]
    return []


def changed_names(nodes):
    names = []
    for node in [inner for outer in nodes for inner in ast.walk(outer)]:
        if isinstance(node, ast.Call) and isinstance(node.func, ast.Attribute) and node.func.attr in CHANGING:
            names.append(getattr(node.func.value, "id", ""))
        if isinstance(node, ast.Subscript) and isinstance(node.ctx, ast.Store):
            names.append(getattr(node.value, "id", ""))
        if isinstance(node, ast.AugAssign):
            names.append(getattr(node.target, "id", ""))
    return names


class Form(unittest.TestCase):

    def each_node(self):
        for path in package_files():
            for node in ast.walk(ast.parse(path.read_text())):
                yield path.name, node

    def test_files(self):
        for path in PACKAGE.iterdir():
            if path.name != "__pycache__":
                self.assertRegex(path.name, r"^([a-z][a-z0-9_]*|__init__|__main__)\.py$")
        self.assertIn(PACKAGE / "__init__.py", package_files())

    def test_signs_and_size(self):
        for path in package_files():
            rows = path.read_bytes().decode("ascii").split("\n")
            self.assertLessEqual(len(rows), 401, path.name)
            for number, row in enumerate(rows, 1):
                self.assertRegex(row, r"^[ -~]{0,120}$", (path.name, number))
        for name, node in self.each_node():
            if isinstance(node, ast.FunctionDef):
                self.assertLessEqual(node.end_lineno - node.lineno + 1, 40, (name, node.name))

    def test_words(self):
        for path in package_files():
            text = path.read_text()
            self.assertEqual(set(re.findall(r"\w+", text)) & WORDS, set(), path.name)
            for part in PARTS:
                self.assertNotIn(part, text.lower(), path.name)

    def test_top_of_a_module(self):
        for path in package_files():
            tree = ast.parse(path.read_text())
            self.assertIsNotNone(ast.get_docstring(tree), path.name)
            for number, node in enumerate(tree.body):
                self.assertIsInstance(node, TOP, (path.name, node.lineno))
                self.assertEqual(isinstance(node, ast.Expr), number == 0, (path.name, node.lineno))
            names = top_names(tree)
            self.assertEqual(len(names), len(set(names)), path.name)

    def test_imports(self):
        defined = {}
        drawn = {}
        for path in package_files():
            tree = ast.parse(path.read_text())
            module = "hushcards." + path.stem
            rows = [node for node in tree.body if isinstance(node, ast.ImportFrom)]
            own = [node for node in tree.body if not isinstance(node, ast.ImportFrom)]
            defined[module] = top_names(ast.Module(own, []))
            drawn[module] = rows
        for module, rows in drawn.items():
            for node in rows:
                self.assertEqual(node.level, 0, module)
                for alias in node.names:
                    self.assertIn(alias.name, defined[node.module], module)
        while drawn:
            free = [one for one in drawn if not [node for node in drawn[one] if node.module in drawn]]
            self.assertTrue(free, ("files that draw from one another", sorted(drawn)))
            for module in free:
                del drawn[module]

    def test_statements(self):
        for name, node in self.each_node():
            where = (name, getattr(node, "lineno", 0))
            if isinstance(node, ast.stmt):
                self.assertIsInstance(node, STATEMENTS, where)
            if isinstance(node, ast.Assign):
                self.assertEqual(len(node.targets), 1, where)
            if isinstance(node, (ast.For, ast.While)):
                self.assertEqual(node.orelse, [], where)
            if isinstance(node, ast.Try):
                self.assertEqual(node.finalbody, [], where)
            if isinstance(node, ast.Expr) and node.lineno > 1:
                self.assertIsInstance(node.value, ast.Call, where)

    def test_functions_and_classes(self):
        for name, node in self.each_node():
            where = (name, getattr(node, "lineno", 0))
            if isinstance(node, (ast.FunctionDef, ast.ClassDef)):
                self.assertEqual(node.decorator_list, [], where)
            if isinstance(node, ast.FunctionDef):
                self.assertIsNone(node.returns, where)
            if isinstance(node, ast.arguments):
                self.assertEqual((node.vararg, node.kwarg, node.kwonlyargs, node.posonlyargs), (None, None, [], []))
            if isinstance(node, ast.arg):
                self.assertIsNone(node.annotation, where)
            if isinstance(node, ast.ClassDef):
                self.assertLessEqual(len(node.bases), 1, where)
                self.assertEqual(node.keywords, [], where)
                for part in node.body:
                    self.assertIsInstance(part, (ast.FunctionDef, ast.Pass), where)

    def test_expressions(self):
        for name, node in self.each_node():
            where = (name, getattr(node, "lineno", 0))
            if isinstance(node, ast.expr):
                self.assertIsInstance(node, EXPRESSIONS, where)
            if isinstance(node, ast.Constant):
                self.assertIn(type(node.value), (int, str, bool, type(None)), where)
                self.assertNotIn("%", str(node.value), where)
            if isinstance(node, (ast.BinOp, ast.AugAssign)):
                self.assertNotIsInstance(node.op, (ast.Div, ast.MatMult), where)
            if isinstance(node, ast.BinOp) and isinstance(node.op, ast.Pow):
                self.assertIsInstance(node.right, ast.Constant, where)
            if isinstance(node, ast.ListComp):
                self.assertEqual(len(node.generators), 1, where)
                self.assertLessEqual(len(node.generators[0].ifs), 1, where)
            if isinstance(node, ast.FormattedValue):
                self.assertIsInstance(node.value, ast.Name, where)
                self.assertIsNone(node.format_spec, where)
            if isinstance(node, ast.Compare) and [op for op in node.ops if isinstance(op, (ast.Is, ast.IsNot))]:
                self.assertIsInstance(node.comparators[0], ast.Constant, where)

    def test_names(self):
        for path in package_files():
            tree = ast.parse(path.read_text())
            bound = bound_names(tree)
            for each in bound:
                self.assertTrue(re.match(r"^[A-Za-z]\w*$", each) or each in DOUBLE, (path.name, each))
                self.assertNotIn(each, NEVER, path.name)
            for each in set(bound) - set(method_names(tree)):
                self.assertFalse(hasattr(builtins, each), (path.name, each))
            for node in ast.walk(tree):
                if isinstance(node, ast.Name) and node.id not in bound:
                    self.assertIn(node.id, OWN_NAMES, (path.name, node.lineno))

    def test_methods(self):
        own = [each for path in package_files() for each in method_names(ast.parse(path.read_text()))]
        for name, node in self.each_node():
            if isinstance(node, ast.Attribute):
                self.assertNotIn(node.attr, NEVER, (name, node.lineno))
            if isinstance(node, ast.Call) and isinstance(node.func, ast.Attribute):
                self.assertTrue(node.func.attr in METHODS or node.func.attr in own, (name, node.lineno))

    def test_walked_at_once(self):
        for path in package_files():
            tree = ast.parse(path.read_text())
            walked = []
            for node in ast.walk(tree):
                if isinstance(node, (ast.For, ast.comprehension)):
                    walked.append(node.iter)
                if isinstance(node, ast.Call) and self.called(node) in WALKERS:
                    walked.extend(node.args)
            for node in ast.walk(tree):
                if isinstance(node, ast.Call) and self.called(node) in LAZY:
                    self.assertIn(node, walked, (path.name, node.lineno))

    def test_loops_leave_what_they_walk(self):
        for name, node in self.each_node():
            if isinstance(node, ast.For):
                both = set(walked_names(node.iter)) & set(changed_names(node.body))
                self.assertEqual(both, set(), (name, node.lineno))

    def test_locals_unlike_imports_and_classes(self):
        for path in package_files():
            tree = ast.parse(path.read_text())
            taken = [alias.name for node in tree.body if isinstance(node, ast.ImportFrom) for alias in node.names]
            taken.extend([node.name for node in tree.body if isinstance(node, ast.ClassDef)])
            for node in ast.walk(tree):
                if isinstance(node, ast.FunctionDef):
                    inner = set(bound_names(ast.Module([node], []))) - {node.name}
                    self.assertEqual(inner & set(taken), set(), (path.name, node.lineno))

    def test_sets_are_not_kept(self):
        for path in package_files():
            tree = ast.parse(path.read_text())
            spent = []
            for node in ast.walk(tree):
                if isinstance(node, ast.Compare):
                    spent.extend([node.left] + node.comparators)
                if isinstance(node, ast.Call) and self.called(node) in ("len", "sorted") and not node.keywords:
                    spent.extend(node.args)
            for node in ast.walk(tree):
                made = isinstance(node, ast.Call) and self.called(node) in ("set", "frozenset")
                if made or isinstance(node, ast.Set):
                    self.assertIn(node, spent, (path.name, node.lineno))

    def test_calls_of_pythons_own(self):
        for name, node in self.each_node():
            where = (name, getattr(node, "lineno", 0))
            if isinstance(node, ast.Call):
                for keyword in node.keywords:
                    self.assertIn(keyword.arg, KEYWORDS.get(self.called(node), ()), where)
            if isinstance(node, ast.Call) and self.called(node) == "isinstance":
                kinds = node.args[1].elts if isinstance(node.args[1], ast.Tuple) else [node.args[1]]
                for kind in kinds:
                    self.assertTrue(kind.id in ASKED or kind.id[0].isupper(), where)

    def test_methods_and_values_are_unlike(self):
        methods = [each for path in package_files() for each in method_names(ast.parse(path.read_text()))]
        for name, node in self.each_node():
            if isinstance(node, ast.Attribute) and isinstance(node.ctx, ast.Store):
                self.assertNotIn(node.attr, methods, (name, node.lineno))
                self.assertNotIn(node.attr, NO_VALUES, (name, node.lineno))

    def test_errors_taken(self):
        for name, node in self.each_node():
            if isinstance(node, ast.ExceptHandler):
                self.assertIsNotNone(node.type, (name, node.lineno))
                taken = [part.id for part in ast.walk(node.type) if isinstance(part, ast.Name)]
                self.assertEqual(set(taken) & {"Exception", "TypeError"}, set(), (name, node.lineno))
            if isinstance(node, ast.Raise):
                self.assertIsInstance(node.exc, ast.Call, (name, node.lineno))

    def called(self, node):
        return node.func.attr if isinstance(node.func, ast.Attribute) else getattr(node.func, "id", "")


if __name__ == "__main__":
    unittest.main()
