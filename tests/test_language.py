"""The form of the code: those rules of LANGUAGE.md that a walk over the package's files can see."""

import ast
import builtins
import pathlib
import re
import unittest

PACKAGE = pathlib.Path(__file__).resolve().parent.parent / "oldmachine"
FILES = sorted(path for path in PACKAGE.rglob("*") if path.is_file() and "__pycache__" not in path.parts)

ERRORS = set("""Exception ValueError TypeError KeyError IndexError LookupError ZeroDivisionError ArithmeticError
    OverflowError RuntimeError NotImplementedError AttributeError StopIteration""".split())
OWN_NAMES = ERRORS | set("""len range enumerate zip min max sum abs sorted reversed int str bool list tuple dict set
    frozenset isinstance ord repr any all divmod""".split())
METHODS = set("""append clear copy count endswith extend find get index insert isalnum isalpha isdigit islower isspace
    isupper items join keys ljust lower lstrip partition pop remove replace reverse rfind rjust rpartition rsplit rstrip
    setdefault split splitlines startswith strip update upper values zfill bit_length""".split())
TWO_UNDERSCORES = {"__init__", "__eq__", "__repr__", "__str__", "__len__"}
NOT_NAMES = set("""register mro elements open input version_info with_traceback add_note attrgetter breakpoint builtins
    compile copyright credits delattr dir eval exec exit gc getattr globals hasattr help id importlib license locals
    methodcaller os quit setattr super type vars sys chr format format_map""".split())
NOT_WORDS = set("""type typing typing_extensions enum Enum IntEnum StrEnum Flag IntFlag Generic Protocol ABC ABCMeta
    namedtuple NamedTuple TypedDict TYPE_CHECKING abstractmethod""".split())
NOT_PARTS = ("dataclass", "overload", "contextmanager")
STATEMENTS = (ast.Assign, ast.AugAssign, ast.If, ast.While, ast.For, ast.Return, ast.Break, ast.Continue, ast.Pass,
              ast.Raise, ast.Try, ast.Expr, ast.FunctionDef, ast.ClassDef, ast.ImportFrom)
NOT_EXPRESSIONS = (ast.Div, ast.SetComp, ast.DictComp, ast.GeneratorExp, ast.NamedExpr, ast.Starred, ast.Yield,
                   ast.YieldFrom, ast.Await, ast.MatMult)


def parsed(path):
    return ast.parse(path.read_text(encoding="utf-8"))


def plain_value(node):
    if isinstance(node, (ast.List, ast.Tuple)):
        return all(plain_value(part) for part in node.elts)
    if isinstance(node, ast.Dict):
        return all(plain_value(part) for part in node.keys + node.values)
    if isinstance(node, ast.UnaryOp):
        return isinstance(node.op, ast.USub) and plain_value(node.operand)
    return isinstance(node, (ast.Constant, ast.Name))


def bound_names(tree):
    for node in ast.walk(tree):
        if isinstance(node, (ast.FunctionDef, ast.ClassDef)):
            yield node.name
        elif isinstance(node, ast.arg):
            yield node.arg
        elif isinstance(node, ast.Name) and isinstance(node.ctx, ast.Store):
            yield node.id
        elif isinstance(node, ast.Attribute):
            yield node.attr


class LanguageTest(unittest.TestCase):

    def test_files(self):
        self.assertIn(PACKAGE / "__init__.py", FILES)
        for path in FILES:
            self.assertRegex(path.name, r"^(__init__|[a-z][a-z0-9_]*)\.py$")
            self.assertFalse(path.stem != "__init__" and hasattr(builtins, path.stem))

    def test_signs_lines_and_words(self):
        for path in FILES:
            text = path.read_bytes().decode("ascii")
            self.assertRegex(text, r"\A[ -~\n]*\Z")
            rows = text.split("\n")
            self.assertLessEqual(len(rows), 401)
            self.assertLessEqual(max(len(row) for row in rows), 120)
            self.assertEqual(NOT_WORDS & set(re.findall(r"\w+", text)), set())
            for part in NOT_PARTS:
                self.assertNotIn(part, text)

    def test_top_of_a_module(self):
        for path in FILES:
            with self.subTest(file=path.name):
                tree = parsed(path)
                for node in tree.body[1:] if ast.get_docstring(tree) else tree.body:
                    self.assertIsInstance(node, (ast.ImportFrom, ast.FunctionDef, ast.ClassDef, ast.Assign))
                    if isinstance(node, ast.Assign):
                        self.assertTrue(plain_value(node.value))

    def test_imports_are_from_the_defining_file_and_in_no_ring(self):
        drawn = {}
        for path in FILES:
            with self.subTest(file=path.name):
                tree = parsed(path)
                rows = [node for node in ast.walk(tree) if isinstance(node, ast.ImportFrom)]
                for node in rows:
                    self.assertIn(node, tree.body)
                    self.assertRegex(node.module, r"^oldmachine\.[a-z0-9_]+$")
                    self.assertEqual(node.level, 0)
                    source = parsed(PACKAGE / (node.module.split(".")[1] + ".py"))
                    defined = [part.name for part in source.body if isinstance(part, (ast.FunctionDef, ast.ClassDef))]
                    defined += [part.targets[0].id for part in source.body if isinstance(part, ast.Assign)]
                    for name in node.names:
                        self.assertIn(name.name, defined)
                drawn[path.stem] = [node.module.split(".")[1] for node in rows]
        while drawn:
            free = [stem for stem in drawn if not set(drawn[stem]) & set(drawn)]
            self.assertNotEqual(free, [], "files that draw from one another")
            drawn = {stem: drawn[stem] for stem in drawn if stem not in free}

    def test_statements_and_expressions(self):
        for path in FILES:
            with self.subTest(file=path.name):
                tree = parsed(path)
                docstring = tree.body[0] if ast.get_docstring(tree) else None
                for node in ast.walk(tree):
                    if isinstance(node, ast.stmt):
                        self.assertIsInstance(node, STATEMENTS)
                    self.assertNotIsInstance(node, NOT_EXPRESSIONS)
                    if isinstance(node, ast.Expr) and node is not docstring:
                        self.assertIsInstance(node.value, ast.Call)
                    if isinstance(node, ast.Assign):
                        self.assertEqual(len(node.targets), 1)
                    if isinstance(node, (ast.For, ast.While)):
                        self.assertEqual(node.orelse, [])
                    if isinstance(node, ast.Try):
                        self.assertEqual(node.finalbody, [])
                    if isinstance(node, ast.Constant):
                        self.assertIsInstance(node.value, (int, str, type(None)))
                        self.assertFalse(isinstance(node.value, str) and "%" in node.value)

    def test_functions_and_classes(self):
        for path in FILES:
            with self.subTest(file=path.name):
                tree = parsed(path)
                for node in ast.walk(tree):
                    if isinstance(node, ast.FunctionDef):
                        self.assertLessEqual(node.end_lineno - node.lineno + 1, 40)
                        self.assertEqual(node.decorator_list, [])
                        self.assertEqual((node.args.vararg, node.args.kwarg, node.args.kwonlyargs), (None, None, []))
                    if isinstance(node, ast.ClassDef):
                        self.assertIn(node, tree.body)
                        self.assertEqual(node.decorator_list, [])
                        self.assertLessEqual(len(node.bases), 1)
                        for part in node.body:
                            self.assertIsInstance(part, (ast.FunctionDef, ast.Pass))

    def test_names(self):
        for path in FILES:
            with self.subTest(file=path.name):
                tree = parsed(path)
                bound = set(bound_names(tree))
                for name in bound - TWO_UNDERSCORES:
                    self.assertRegex(name, r"^[A-Za-z][A-Za-z0-9_]*$")
                self.assertEqual(bound & NOT_NAMES, set())
                for node in ast.walk(tree):
                    if isinstance(node, ast.Name):
                        self.assertNotIn(node.id, NOT_NAMES)
                        if hasattr(builtins, node.id):
                            self.assertIn(node.id, OWN_NAMES)
                            self.assertIsInstance(node.ctx, ast.Load)
                    if isinstance(node, ast.arg):
                        self.assertFalse(hasattr(builtins, node.arg))

    def test_methods(self):
        own = set()
        for path in FILES:
            with self.subTest(file=path.name):
                tree = parsed(path)
                own |= {node.name for node in ast.walk(tree) if isinstance(node, ast.FunctionDef)}
        for path in FILES:
            with self.subTest(file=path.name):
                tree = parsed(path)
                for node in ast.walk(tree):
                    if isinstance(node, ast.Call) and isinstance(node.func, ast.Attribute):
                        self.assertIn(node.func.attr, METHODS | own)

    def test_no_name_is_a_method_and_a_value(self):
        methods, values = set(), set()
        for path in FILES:
            with self.subTest(file=path.name):
                tree = parsed(path)
                for node in ast.walk(tree):
                    if isinstance(node, ast.ClassDef):
                        methods |= {part.name for part in node.body if isinstance(part, ast.FunctionDef)}
                    if isinstance(node, ast.Attribute) and isinstance(node.ctx, ast.Store):
                        values.add(node.attr)
        self.assertEqual(methods & values, set())

    def test_errors_are_the_programs_own(self):
        for path in FILES:
            with self.subTest(file=path.name):
                tree = parsed(path)
                for node in ast.walk(tree):
                    if isinstance(node, ast.ExceptHandler):
                        self.assertIsInstance(node.type, ast.Name)
                        self.assertNotIn(node.type.id, ("Exception", "TypeError"))
                    if isinstance(node, ast.Raise):
                        self.assertIsInstance(node.exc, ast.Call)


if __name__ == "__main__":
    unittest.main()
