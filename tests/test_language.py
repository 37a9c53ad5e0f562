"""The package's own files keep to the small part of Python that the program is written in."""

import ast
import builtins
import os
import re
import unittest

PACKAGE = "pointgroupsdesk"
FOLDER = os.path.join(os.path.dirname(os.path.dirname(os.path.abspath(__file__))), PACKAGE)

BUILT_IN = set(
    "len range enumerate zip min max sum abs sorted reversed int str bool list tuple dict set frozenset isinstance ord "
    "repr any all divmod Exception ValueError TypeError KeyError IndexError LookupError ZeroDivisionError "
    "ArithmeticError OverflowError RuntimeError NotImplementedError AttributeError StopIteration".split()
)
METHODS = set(
    "append clear copy count endswith extend find get index insert isalnum isalpha isdigit islower isspace isupper "
    "items join keys ljust lower lstrip partition pop remove replace reverse rfind rjust rpartition rsplit rstrip "
    "setdefault split splitlines startswith strip update upper values zfill bit_length".split()
)
STATEMENTS = (
    ast.Assign, ast.AugAssign, ast.If, ast.While, ast.For, ast.Return, ast.Break, ast.Continue, ast.Pass, ast.Raise,
    ast.Try, ast.Expr, ast.FunctionDef, ast.ClassDef, ast.ImportFrom,
)
NOT_USED = (
    ast.GeneratorExp, ast.SetComp, ast.DictComp, ast.NamedExpr, ast.Starred, ast.Div, ast.MatMult, ast.Await, ast.Yield,
    ast.YieldFrom, ast.AnnAssign,
)
WORDS = (
    "type typing typing_extensions enum Enum IntEnum StrEnum Flag IntFlag Generic Protocol ABC ABCMeta namedtuple "
    "NamedTuple TypedDict TYPE_CHECKING abstractmethod"
).split()
WITHIN_WORDS = ("dataclass", "overload", "contextmanager")
NAMES_NOT_USED = set("register mro elements open input version_info with_traceback add_note format format_map".split())
WALKED = ("zip", "enumerate", "reversed", "range")
WALKERS = set("list tuple dict sorted sum any all enumerate zip min max reversed".split())


def read(name):
    with open(os.path.join(FOLDER, name), encoding="utf-8") as file:
        return file.read()


def files():
    return sorted(name for name in os.listdir(FOLDER) if name != "__pycache__")


def trees():
    return [(name, ast.parse(read(name))) for name in files()]


def nodes(*kinds):
    return [(name, node) for name, tree in trees() for node in ast.walk(tree) if isinstance(node, kinds)]


class Language(unittest.TestCase):
    def none_of(self, found):
        self.assertEqual([(name, getattr(node, "lineno", node)) for name, node in found], [])

    def test_files(self):
        for name in files():
            self.assertRegex(name, r"^[a-z0-9_]+\.py$")
        self.assertIn("__init__.py", files())

    def test_signs_and_sizes(self):
        for name in files():
            text = read(name)
            self.assertRegex(text, r"\A[ -~\n]*\Z", name)
            self.assertLessEqual(text.count("\n"), 400, name)
            self.assertLessEqual(max(len(line) for line in text.split("\n")), 120, name)
        for name, node in nodes(ast.FunctionDef):
            self.assertLessEqual(node.end_lineno - node.lineno + 1, 40, (name, node.name))

    def test_words(self):
        for name in files():
            text = read(name)
            for word in WORDS:
                self.assertIsNone(re.search(r"\b%s\b" % word, text), (name, word))
            for word in WITHIN_WORDS:
                self.assertNotIn(word, text, name)

    def test_imports(self):
        drawn = {name: [] for name in files()}
        self.none_of(nodes(ast.Import))
        for name, node in nodes(ast.ImportFrom):
            self.assertEqual(node.level, 0)
            package, module = node.module.split(".")
            self.assertEqual(package, PACKAGE)
            defined = [part.name for part in ast.parse(read(module + ".py")).body if hasattr(part, "name")]
            for alias in node.names:
                self.assertIsNone(alias.asname)
                self.assertIn(alias.name, defined, name)
            drawn[name] += [module + ".py", "__init__.py"]
        while drawn:
            free = [name for name in drawn if not any(other in drawn for other in drawn[name])]
            self.assertTrue(free, "files draw from one another")
            drawn = {name: drawn[name] for name in drawn if name not in free}

    def test_statements(self):
        self.none_of([(name, node) for name, node in nodes(ast.stmt) if not isinstance(node, STATEMENTS)])
        self.none_of([(name, node) for name, node in nodes(ast.For, ast.While) if node.orelse])
        self.none_of([(name, node) for name, node in nodes(ast.Assign) if len(node.targets) > 1])
        for name, tree in trees():
            said = [node for node in ast.walk(tree) if isinstance(node, ast.Expr)]
            self.none_of([(name, node) for node in said if not isinstance(node.value, ast.Call) and node != tree.body[0]])
        for name, node in nodes(ast.FunctionDef, ast.ClassDef):
            self.assertEqual(node.decorator_list, [], name)
        for name, node in nodes(ast.ClassDef):
            self.none_of([(name, part) for part in node.body if not isinstance(part, ast.FunctionDef)])

    def test_expressions(self):
        self.none_of(nodes(*NOT_USED))
        for name, node in nodes(ast.ListComp):
            self.assertEqual(len(node.generators), 1, name)
            self.assertLessEqual(len(node.generators[0].ifs), 1, name)
        for name, node in nodes(ast.Constant):
            self.assertIsInstance(node.value, (int, str, type(None)), name)
        for name, node in nodes(ast.Compare):
            if any(isinstance(op, (ast.Is, ast.IsNot)) for op in node.ops):
                self.assertIsInstance(node.comparators[0], ast.Constant, name)
        for name, node in nodes(ast.BinOp):
            if isinstance(node.op, ast.Pow):
                self.assertIsInstance(node.right, ast.Constant, name)

    def test_names(self):
        for name, tree in trees():
            bound = set()
            for node in ast.walk(tree):
                if isinstance(node, ast.Name) and isinstance(node.ctx, ast.Store):
                    bound.add(node.id)
                elif isinstance(node, ast.arg):
                    bound.add(node.arg)
                    self.assertIsNone(node.annotation)
                elif isinstance(node, (ast.FunctionDef, ast.ClassDef)):
                    bound.add(node.name)
                elif isinstance(node, ast.alias):
                    bound.add(node.name)
            for word in bound - {"__init__"}:
                self.assertRegex(word, r"^[A-Za-z][A-Za-z0-9_]*$", name)
                self.assertFalse(hasattr(builtins, word), (name, word))
                self.assertNotIn(word, NAMES_NOT_USED, name)
            used = {node.id for node in ast.walk(tree) if isinstance(node, ast.Name)}
            self.assertLessEqual(used - bound, BUILT_IN, name)

    def test_attributes(self):
        methods = set()
        values = set()
        for _, node in nodes(ast.ClassDef):
            methods |= {part.name for part in node.body if isinstance(part, ast.FunctionDef)}
        for _, node in nodes(ast.Attribute):
            if isinstance(node.ctx, ast.Store):
                values.add(node.attr)
        self.assertEqual(methods & values, set())
        for kind in (str, int, list, dict, set, bytes):
            for word in (methods | values) - {"__init__"}:
                self.assertFalse(hasattr(kind, word), word)
        for name, node in nodes(ast.Attribute):
            self.assertIn(node.attr, methods | values | METHODS, name)

    def test_walked_on_the_spot(self):
        for name, tree in trees():
            walked = []
            for node in ast.walk(tree):
                if isinstance(node, (ast.For, ast.comprehension)):
                    walked.append(node.iter)
                elif isinstance(node, ast.Call) and isinstance(node.func, ast.Name) and node.func.id in WALKERS:
                    walked += node.args
            for node in ast.walk(tree):
                if isinstance(node, ast.Call) and isinstance(node.func, ast.Name) and node.func.id in WALKED:
                    self.assertIn(node, walked, (name, node.lineno))
            self.assertFalse([node for node in ast.walk(tree) if isinstance(node, ast.Set)], name)


if __name__ == "__main__":
    unittest.main()
