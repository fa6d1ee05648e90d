"""The form of the package's files: the rules of the language that a walk over them can see."""

import ast
import builtins
import pathlib
import re
import unittest

PACKAGE = pathlib.Path(__file__).resolve().parent.parent / "pooledtests"
FILES = sorted(PACKAGE.glob("*.py"))

STATEMENTS = (ast.FunctionDef, ast.ClassDef, ast.Import, ast.ImportFrom, ast.Assign, ast.AugAssign, ast.If, ast.While,
              ast.For, ast.Return, ast.Break, ast.Continue, ast.Pass, ast.Raise, ast.Try, ast.Expr)
EXPRESSIONS = (ast.Constant, ast.List, ast.Tuple, ast.Dict, ast.Set, ast.BinOp, ast.UnaryOp, ast.BoolOp, ast.Compare,
               ast.IfExp, ast.Call, ast.Attribute, ast.Subscript, ast.Slice, ast.ListComp, ast.JoinedStr,
               ast.FormattedValue, ast.Name, ast.Lambda)
BUILT_IN = """len range enumerate zip min max sum abs sorted reversed int str bool list tuple dict set frozenset isinstance
ord repr any all divmod Exception ValueError TypeError KeyError IndexError LookupError ZeroDivisionError ArithmeticError
OverflowError RuntimeError NotImplementedError AttributeError StopIteration""".split()
METHODS = """append clear copy count endswith extend find get index insert isalnum isalpha isdigit islower isspace isupper
items join keys ljust lower lstrip partition pop remove replace reverse rfind rjust rpartition rsplit rstrip setdefault
split splitlines startswith strip update upper values zfill bit_length""".split()
OWN_DUNDERS = "__init__ __eq__ __repr__ __str__ __len__".split()
WORDS = """type typing typing_extensions enum Enum IntEnum StrEnum Flag IntFlag Generic Protocol ABC ABCMeta namedtuple
NamedTuple TypedDict TYPE_CHECKING abstractmethod""".split()
UNUSED = """register mro elements open input version_info with_traceback add_note format format_map attrgetter breakpoint
builtins compile copyright credits delattr dir eval exec exit gc getattr globals hasattr help id importlib license locals
methodcaller os quit setattr super vars sys chr print""".split()
WALKED = ("zip", "enumerate", "reversed", "range", "items", "keys", "values")
WALKERS = ("list", "tuple", "dict", "sorted", "sum", "any", "all", "enumerate", "zip", "min", "max")
KEYWORDS = (("sorted", "key"), ("sorted", "reverse"), ("min", "key"), ("min", "default"), ("max", "key"),
            ("max", "default"), ("sum", "start"), ("enumerate", "start"), ("zip", "strict"))
PYTHONS_OWN = set().union(*(dir(kind) for kind in (str, int, list, dict, set, bytes, tuple)))


def walk(path):
    return ast.walk(ast.parse(path.read_text()))


def called(call):
    """The name of the function or method that is called."""
    return call.func.id if isinstance(call.func, ast.Name) else call.func.attr


class Form(unittest.TestCase):
    def each(self, *kinds):
        for path in FILES:
            for node in walk(path):
                if isinstance(node, kinds):
                    yield f"{path.name}:{node.lineno}", node

    def test_files(self):
        self.assertGreaterEqual(len(FILES), 2)
        for path in PACKAGE.iterdir():
            if path.name != "__pycache__":
                self.assertRegex(path.name, r"^([a-z][a-z0-9_]*|__init__)\.py$")

    def test_rows_and_signs(self):
        for path in FILES:
            text = path.read_text()
            rows = text.split("\n")
            self.assertLessEqual(len(rows), 400)
            for number, row in enumerate(rows, 1):
                self.assertLessEqual(len(row), 120, f"{path.name}:{number}")
                self.assertRegex(row, r"^[ -~]*$", f"{path.name}:{number}")
            for word in WORDS:
                self.assertIsNone(re.search(rf"\b{word}\b", text), word)

    def test_statements_and_expressions(self):
        for where, node in self.each(ast.stmt):
            self.assertIsInstance(node, STATEMENTS, where)
        for where, node in self.each(ast.expr):
            self.assertIsInstance(node, EXPRESSIONS, where)
        for where, node in self.each(ast.For, ast.While):
            self.assertEqual(node.orelse, [], where)
        for where, node in self.each(ast.Assign):
            self.assertEqual(len(node.targets), 1, where)
            self.assertIsInstance(node.targets[0], (ast.Name, ast.Attribute, ast.Subscript), where)
        for where, node in self.each(ast.Expr):
            self.assertIsInstance(node.value, (ast.Call, ast.Constant), where)

    def test_values(self):
        for where, node in self.each(ast.Constant):
            self.assertIsInstance(node.value, (int, str, type(None)), where)
            if isinstance(node.value, str):
                self.assertNotIn("%", node.value, where)
        for where, node in self.each(ast.BinOp, ast.AugAssign):
            self.assertNotIsInstance(node.op, (ast.Div, ast.MatMult), where)
            if isinstance(node.op, ast.Pow):
                self.assertIsInstance(node.right, ast.Constant, where)
        for where, node in self.each(ast.ListComp):
            self.assertEqual(len(node.generators), 1, where)
            self.assertLessEqual(len(node.generators[0].ifs), 1, where)
        for where, node in self.each(ast.Compare):
            for operator, right in zip(node.ops, node.comparators):
                if isinstance(operator, (ast.Is, ast.IsNot)):
                    self.assertIn(right.value, (None, True, False), where)

    def test_functions(self):
        for where, node in self.each(ast.FunctionDef):
            self.assertEqual(node.decorator_list, [], where)
            self.assertLessEqual(node.end_lineno - node.lineno + 1, 40, where)
            arguments = node.args
            self.assertEqual((arguments.vararg, arguments.kwarg, arguments.kwonlyargs), (None, None, []), where)
            self.assertIsNone(node.returns, where)

    def test_tops(self):
        for path in FILES:
            bound = []
            for node in ast.parse(path.read_text()).body:
                if isinstance(node, ast.Assign):
                    ast.literal_eval(node.value)
                    bound.append(node.targets[0].id)
                elif isinstance(node, (ast.FunctionDef, ast.ClassDef)):
                    bound.append(node.name)
                elif isinstance(node, ast.ImportFrom):
                    bound += [name.name for name in node.names]
                else:
                    self.assertIsInstance(node.value, ast.Constant, path.name)
            self.assertEqual(len(bound), len(set(bound)), path.name)

    def test_imports(self):
        drawn = {}
        for path in FILES:
            drawn[path.stem] = []
            for node in walk(path):
                self.assertNotIsInstance(node, ast.Import)
                if isinstance(node, ast.ImportFrom):
                    self.assertRegex(node.module, r"^pooledtests\.[a-z_]+$")
                    drawn[path.stem].append(node.module.split(".")[1])
        while drawn:
            ends = [stem for stem in drawn if not any(other in drawn for other in drawn[stem])]
            self.assertTrue(ends, "files draw from one another")
            for stem in ends:
                del drawn[stem]

    def test_names(self):
        for path in FILES:
            tree = ast.parse(path.read_text())
            methods = [method for node in tree.body if isinstance(node, ast.ClassDef) for method in node.body]
            for node in ast.walk(tree):
                name = None
                if isinstance(node, ast.Name):
                    name = node.id
                elif isinstance(node, ast.arg):
                    name = node.arg
                elif isinstance(node, (ast.FunctionDef, ast.ClassDef)):
                    name = node.name
                if name is None or node in methods and name in OWN_DUNDERS:
                    continue
                self.assertRegex(name, r"^[A-Za-z][A-Za-z0-9_]*$", path.name)
                self.assertNotIn(name, UNUSED, path.name)
                if hasattr(builtins, name) and node not in methods:
                    self.assertIsInstance(getattr(node, "ctx", None), ast.Load, f"{path.name}: {name}")
                    self.assertIn(name, BUILT_IN, path.name)

    def test_methods_and_values(self):
        own_methods = {}
        for where, node in self.each(ast.ClassDef):
            self.assertLessEqual(len(node.bases), 1, where)
            for part in node.body:
                self.assertIsInstance(part, (ast.FunctionDef, ast.Expr), where)
                if isinstance(part, ast.FunctionDef) and part.name not in OWN_DUNDERS:
                    own_methods[part.name] = where
        values = {node.attr for where, node in self.each(ast.Attribute) if isinstance(node.ctx, ast.Store)}
        self.assertEqual(values & set(own_methods), set())
        self.assertEqual((values | set(own_methods)) & PYTHONS_OWN, set())
        for where, node in self.each(ast.Attribute):
            self.assertNotIn(node.attr, UNUSED, where)
            self.assertTrue(node.attr in values or node.attr in own_methods or node.attr in METHODS, where)

    def test_keywords(self):
        for where, node in self.each(ast.Call):
            for keyword in node.keywords:
                self.assertIn((called(node), keyword.arg), KEYWORDS, where)

    def test_walked_at_once(self):
        for path in FILES:
            tree = ast.parse(path.read_text())
            good = set()
            for node in ast.walk(tree):
                if isinstance(node, (ast.For, ast.comprehension)):
                    good.add(node.iter)
                elif isinstance(node, ast.Call) and called(node) in WALKERS and node.args:
                    good.add(node.args[0])
            for node in ast.walk(tree):
                if isinstance(node, ast.Call) and called(node) in WALKED:
                    self.assertIn(node, good, f"{path.name}:{node.lineno}")

    def test_sets(self):
        for path in FILES:
            tree = ast.parse(path.read_text())
            good = set()
            for node in ast.walk(tree):
                if isinstance(node, ast.Call) and called(node) in ("sorted", "len") and not node.keywords:
                    good.update(node.args)
                elif isinstance(node, ast.Compare):
                    good.update([node.left] + node.comparators)
            for node in ast.walk(tree):
                if isinstance(node, ast.Set) or isinstance(node, ast.Call) and called(node) in ("set", "frozenset"):
                    self.assertIn(node, good, f"{path.name}:{node.lineno}")


if __name__ == "__main__":
    unittest.main()
