"""The package's files keep to the small part of Python that they are written in, as far as a test can see it."""

import ast
import builtins
import re
import unittest
from pathlib import Path

PACKAGE = Path(__file__).resolve().parent.parent / "softport"

STATEMENTS = (ast.Assign, ast.AugAssign, ast.If, ast.While, ast.For, ast.Return, ast.Break, ast.Continue, ast.Pass,
              ast.Raise, ast.Try, ast.Expr, ast.FunctionDef, ast.ClassDef, ast.ImportFrom)
EXPRESSIONS = (ast.BoolOp, ast.BinOp, ast.UnaryOp, ast.Lambda, ast.IfExp, ast.Dict, ast.ListComp, ast.Compare,
               ast.Call, ast.JoinedStr, ast.FormattedValue, ast.Constant, ast.Attribute, ast.Subscript, ast.Name,
               ast.List, ast.Tuple, ast.Slice)
OWN_NAMES = """len range enumerate zip min max sum abs sorted reversed int str bool list tuple dict set frozenset
    isinstance ord repr any all divmod Exception ValueError TypeError KeyError IndexError LookupError
    ZeroDivisionError ArithmeticError OverflowError RuntimeError NotImplementedError AttributeError
    StopIteration""".split()
OWN_METHODS = """append clear copy count endswith extend find get index insert isalnum isalpha isdigit islower isspace
    isupper items join keys ljust lower lstrip partition pop remove replace reverse rfind rjust rpartition rsplit
    rstrip setdefault split splitlines startswith strip update upper values zfill bit_length""".split()
NEVER_NAMED = """register mro elements open input version_info with_traceback add_note attrgetter breakpoint builtins
    compile copyright credits delattr dir eval exec exit gc getattr globals hasattr help id importlib license locals
    methodcaller os quit setattr super type vars sys""".split()
NEVER_SAID = """type typing typing_extensions enum Enum IntEnum StrEnum Flag IntFlag Generic Protocol ABC ABCMeta
    namedtuple NamedTuple TypedDict TYPE_CHECKING abstractmethod""".split()
WALKERS = ("zip", "enumerate", "reversed", "range")
WALKED_IN = ("list", "tuple", "dict", "sorted", "sum", "any", "all", "enumerate", "zip", "min", "max")
VALUE_KINDS = (str, int, list, dict, set, bytes)


def sources():
    return {path.name: path.read_text(encoding="utf-8") for path in sorted(PACKAGE.glob("*.py"))}


def trees():
    return {name: ast.parse(text) for name, text in sources().items()}


def nodes(kind):
    return [(name, node) for name, tree in trees().items() for node in ast.walk(tree) if isinstance(node, kind)]


def is_plain(node):
    if isinstance(node, (ast.List, ast.Tuple)):
        return all(is_plain(one) for one in node.elts)
    if isinstance(node, ast.Dict):
        return all(is_plain(one) for one in node.keys + node.values)
    if isinstance(node, ast.UnaryOp):
        return isinstance(node.op, ast.USub) and is_plain(node.operand)
    return isinstance(node, ast.Constant) and isinstance(node.value, (int, str, type(None)))


class Files(unittest.TestCase):
    def test_what_lies_in_the_package(self):
        for path in PACKAGE.iterdir():
            if path.name != "__pycache__":
                self.assertRegex(path.name, r"^([a-z][a-z0-9_]*|__init__|__main__)\.py$")
        self.assertTrue((PACKAGE / "__init__.py").exists())

    def test_size_and_signs(self):
        for name, text in sources().items():
            lines = text.split("\n")
            self.assertLessEqual(len(lines), 400, name)
            for line in lines:
                self.assertLessEqual(len(line), 120, (name, line))
                self.assertRegex(line, r"^[ -~]*$", name)
        for name, node in nodes(ast.FunctionDef):
            self.assertLessEqual(node.end_lineno - node.lineno + 1, 40, (name, node.name))

    def test_words_that_stand_nowhere(self):
        for name, text in sources().items():
            self.assertEqual(set(re.findall(r"\w+", text)) & set(NEVER_SAID), set(), name)
            self.assertNotRegex(text, "dataclass|overload|contextmanager")


class Tops(unittest.TestCase):
    def test_what_stands_at_the_top(self):
        for name, tree in trees().items():
            bound = []
            for node in tree.body:
                with self.subTest(file=name, line=node.lineno):
                    if isinstance(node, ast.Assign):
                        self.assertTrue(is_plain(node.value))
                        bound += [target.id for target in node.targets]
                    elif isinstance(node, ast.Expr):
                        self.assertIsInstance(node.value, ast.Constant)
                        self.assertIs(node, tree.body[0])
                    elif isinstance(node, ast.ImportFrom):
                        bound += [alias.name for alias in node.names]
                    else:
                        self.assertIsInstance(node, (ast.FunctionDef, ast.ClassDef))
                        bound.append(node.name)
            self.assertEqual(len(bound), len(set(bound)), name)

    def test_imports(self):
        drawn = {}
        defined = {name[:-3]: {node.name for node in tree.body if isinstance(node, (ast.FunctionDef, ast.ClassDef))}
                   | {node.targets[0].id for node in tree.body if isinstance(node, ast.Assign)}
                   for name, tree in trees().items()}
        for name, node in nodes(ast.ImportFrom):
            self.assertRegex(node.module, r"^softport\.[a-z]+$")
            self.assertEqual(node.level, 0)
            source = node.module.split(".")[1]
            drawn.setdefault(name[:-3], set()).add(source)
            for alias in node.names:
                self.assertIsNone(alias.asname)
                self.assertIn(alias.name, defined[source])
        self.assertNotIn("__init__", drawn)
        rest = set(defined)
        while rest:
            free = {name for name in rest if not drawn.get(name, set()) & rest}
            self.assertTrue(free, f"these draw from one another: {rest}")
            rest -= free


class Forms(unittest.TestCase):
    def test_statements_and_expressions(self):
        for name, node in nodes((ast.stmt, ast.expr)):
            with self.subTest(file=name, line=node.lineno):
                self.assertIsInstance(node, STATEMENTS + EXPRESSIONS)
                if isinstance(node, ast.Assign):
                    self.assertEqual(len(node.targets), 1)
                    self.assertIsInstance(node.targets[0], (ast.Name, ast.Attribute, ast.Subscript))
                if isinstance(node, (ast.For, ast.While)):
                    self.assertEqual(node.orelse, [])
                if isinstance(node, ast.Try):
                    self.assertEqual(node.finalbody, [])
                if isinstance(node, ast.ListComp):
                    self.assertEqual(len(node.generators), 1)
                    self.assertLessEqual(len(node.generators[0].ifs), 1)
                if isinstance(node, (ast.BinOp, ast.AugAssign)):
                    self.assertNotIsInstance(node.op, (ast.Div, ast.Pow, ast.MatMult))
                if isinstance(node, ast.Constant):
                    self.assertIsInstance(node.value, (int, str, type(None)))
                if isinstance(node, ast.Compare) and isinstance(node.ops[0], (ast.Is, ast.IsNot)):
                    self.assertIsInstance(node.comparators[0], ast.Constant)

    def test_functions(self):
        for name, node in nodes(ast.FunctionDef):
            with self.subTest(file=name, function=node.name):
                self.assertEqual(node.decorator_list, [])
                self.assertIsNone(node.returns)
                given = node.args
                self.assertEqual((given.posonlyargs, given.kwonlyargs, given.vararg, given.kwarg), ([], [], None, None))
                self.assertEqual([one for one in given.args if one.annotation is not None], [])

    def test_classes(self):
        for name, node in nodes(ast.ClassDef):
            with self.subTest(file=name, name=node.name):
                self.assertEqual((node.decorator_list, node.keywords), ([], []))
                self.assertLessEqual(len(node.bases), 1)
                for one in node.body:
                    self.assertTrue(isinstance(one, ast.FunctionDef) or one is node.body[0])

    def test_what_is_walked_at_once(self):
        for name, tree in trees().items():
            allowed = set()
            for node in ast.walk(tree):
                if isinstance(node, (ast.For, ast.comprehension)):
                    allowed.add(node.iter)
                if isinstance(node, ast.Call) and isinstance(node.func, ast.Name) and node.func.id in WALKED_IN:
                    allowed |= set(node.args[:1])
            for node in ast.walk(tree):
                if isinstance(node, ast.Call) and isinstance(node.func, ast.Name) and node.func.id in WALKERS:
                    self.assertIn(node, allowed, (name, node.lineno))


class Names(unittest.TestCase):
    def test_names_are_plain(self):
        for name, node in nodes((ast.Name, ast.Attribute, ast.FunctionDef, ast.ClassDef, ast.arg)):
            word = getattr(node, "id", None) or getattr(node, "attr", None) or getattr(node, "arg", None) or node.name
            with self.subTest(file=name, line=node.lineno, word=word):
                self.assertTrue(word == "__init__" or re.fullmatch("[A-Za-z][A-Za-z0-9_]*", word))
                self.assertNotIn(word, NEVER_NAMED)

    def test_python_s_own_names(self):
        for name, node in nodes(ast.Name):
            if hasattr(builtins, node.id):
                with self.subTest(file=name, line=node.lineno, word=node.id):
                    self.assertIn(node.id, OWN_NAMES)
                    self.assertIsInstance(node.ctx, ast.Load)

    def test_locals_and_parameters(self):
        for name, tree in trees().items():
            taken = {alias.name for node in tree.body if isinstance(node, ast.ImportFrom) for alias in node.names}
            taken |= {node.name for node in tree.body if isinstance(node, (ast.ClassDef, ast.FunctionDef))}
            taken |= set(dir(builtins))
            for node in ast.walk(tree):
                if isinstance(node, ast.arg):
                    self.assertNotIn(node.arg, taken, (name, node.lineno))
                if isinstance(node, ast.Name) and isinstance(node.ctx, ast.Store):
                    self.assertNotIn(node.id, taken, (name, node.lineno))

    def test_methods_and_values(self):
        methods = {one.name for name, node in nodes(ast.ClassDef) for one in node.body
                   if isinstance(one, ast.FunctionDef)} - {"__init__"}
        values = {node.attr for name, node in nodes(ast.Attribute) if isinstance(node.ctx, ast.Store)}
        of_python = {word for kind in VALUE_KINDS for word in dir(kind)}
        self.assertEqual(methods & values, set())
        self.assertEqual((methods | values) & of_python, set())
        for name, node in nodes(ast.Attribute):
            with self.subTest(file=name, line=node.lineno, word=node.attr):
                self.assertIn(node.attr, methods | values | set(OWN_METHODS))


if __name__ == "__main__":
    unittest.main()
