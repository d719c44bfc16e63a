"""The rules of LANGUAGE.md that can be seen in the package's files, as far as this program needs them."""

import ast
import builtins
import re
import unittest
from pathlib import Path

PACKAGE = Path(__file__).resolve().parent.parent / "tworooms"

NODES = set("""
    Module FunctionDef ClassDef arguments arg Return Assign AugAssign If While For Break Continue Pass Raise Try
    ExceptHandler Expr Import ImportFrom alias Constant Name Load Store Attribute Subscript Slice Call keyword List
    Tuple Dict ListComp comprehension BinOp UnaryOp BoolOp Compare IfExp Lambda JoinedStr FormattedValue
    Add Sub Mult FloorDiv Mod Pow BitAnd BitOr BitXor LShift RShift Invert USub Not And Or
    Eq NotEq Lt LtE Gt GtE In NotIn Is IsNot
""".split())

BUILTINS = set("""
    len range enumerate zip min max sum abs sorted reversed int str bool list tuple dict set frozenset isinstance ord
    repr any all divmod Exception ValueError TypeError KeyError IndexError LookupError ZeroDivisionError
    ArithmeticError OverflowError RuntimeError NotImplementedError AttributeError StopIteration
""".split())

METHODS = set("""
    append clear copy count endswith extend find get index insert isalnum isalpha isdigit islower isspace isupper
    items join keys ljust lower lstrip partition pop remove replace reverse rfind rjust rpartition rsplit rstrip
    setdefault split splitlines startswith strip update upper values zfill bit_length
""".split())

WORDS = set("""
    type typing typing_extensions enum Enum IntEnum StrEnum Flag IntFlag Generic Protocol ABC ABCMeta namedtuple
    NamedTuple TypedDict TYPE_CHECKING abstractmethod register mro elements open input version_info with_traceback
    add_note getattr setattr hasattr delattr globals locals vars dir eval exec compile super id
""".split())

PYTHONS_OWN = {name for kind in (str, int, list, tuple, dict, set, frozenset, bytes) for name in dir(kind)}

TWO_UNDERSCORES = {"__init__", "__eq__", "__repr__", "__str__", "__len__"}


def sources():
    return {path.name: path.read_text(encoding="utf-8") for path in sorted(PACKAGE.glob("*.py"))}


def nodes(source, *kinds):
    return [node for node in ast.walk(ast.parse(source)) if isinstance(node, kinds)]


def bound_names(source):
    """Every name that a file binds: functions, classes, parameters, variables and values of objects."""
    names = [node.name for node in nodes(source, ast.FunctionDef, ast.ClassDef)]
    names += [node.arg for node in nodes(source, ast.arg)]
    names += [node.id for node in nodes(source, ast.Name) if isinstance(node.ctx, ast.Store)]
    names += [node.attr for node in nodes(source, ast.Attribute) if isinstance(node.ctx, ast.Store)]
    return set(names)


class Language(unittest.TestCase):
    def test_files(self):
        found = [path.name for path in PACKAGE.iterdir() if path.name != "__pycache__"]
        self.assertIn("__init__.py", found)
        self.assertIn("cache.py", found)
        for name in found:
            self.assertRegex(name, r"^(__init__|[a-z][a-z0-9_]*)\.py$")

    def test_size_and_signs(self):
        for name, source in sources().items():
            with self.subTest(file=name):
                self.assertRegex(source, r"\A[\n -~]*\Z")
                lines = source.split("\n")
                self.assertLessEqual(len(lines), 400)
                self.assertLessEqual(max(len(line) for line in lines), 120)
                for node in nodes(source, ast.FunctionDef):
                    self.assertLessEqual(node.end_lineno - node.lineno + 1, 40, node.name)

    def test_statements_and_expressions(self):
        for name, source in sources().items():
            with self.subTest(file=name):
                self.assertEqual({type(node).__name__ for node in nodes(source, ast.AST)} - NODES, set())
                for node in nodes(source, ast.Assign):
                    self.assertEqual(len(node.targets), 1)
                for node in nodes(source, ast.FunctionDef, ast.ClassDef):
                    self.assertEqual(node.decorator_list, [])
                for node in nodes(source, ast.arguments):
                    self.assertEqual((node.vararg, node.kwarg, node.kwonlyargs, node.posonlyargs), (None, None, [], []))
                for node in nodes(source, ast.Constant):
                    self.assertIn(type(node.value), (int, str, bool, type(None)))
                for node in nodes(source, ast.While, ast.For):
                    self.assertEqual(node.orelse, [])

    def test_nothing_is_imported(self):
        for name, source in sources().items():
            with self.subTest(file=name):
                self.assertEqual(nodes(source, ast.Import, ast.ImportFrom), [])

    def test_names(self):
        for name, source in sources().items():
            with self.subTest(file=name):
                bound = bound_names(source)
                for word in bound - TWO_UNDERSCORES:
                    self.assertRegex(word, r"^[A-Za-z][A-Za-z0-9_]*$")
                self.assertEqual(bound & BUILTINS, set())
                read = {node.id for node in nodes(source, ast.Name)}
                self.assertEqual(read - bound - BUILTINS, set())
                attributes = {node.attr for node in nodes(source, ast.Attribute)}
                self.assertEqual(attributes - bound - METHODS, set())
                self.assertEqual(set(re.findall(r"\w+", source)) & WORDS, set())

    def test_words_and_signs_within_texts(self):
        for name, source in sources().items():
            with self.subTest(file=name):
                for word in ("dataclass", "overload", "contextmanager"):
                    self.assertNotIn(word, source)
                for node in nodes(source, ast.Constant):
                    self.assertNotIn("%", str(node.value))

    def test_names_of_the_top_and_of_methods_have_one_meaning(self):
        for name, source in sources().items():
            with self.subTest(file=name):
                top = {node.id for statement in ast.parse(source).body if isinstance(statement, ast.Assign)
                       for node in statement.targets}
                classes = {node.name for node in nodes(source, ast.ClassDef)}
                within = {node.arg for node in nodes(source, ast.arg)}
                for node in nodes(source, ast.FunctionDef):
                    within |= {one.id for one in ast.walk(node) if isinstance(one, ast.Name)
                               and isinstance(one.ctx, ast.Store)}
                self.assertEqual(within & (top | classes | set(dir(builtins))), set())
                methods = [node.name for owner in nodes(source, ast.ClassDef) for node in owner.body
                           if isinstance(node, ast.FunctionDef)]
                values = {node.attr for node in nodes(source, ast.Attribute) if isinstance(node.ctx, ast.Store)}
                self.assertEqual(len(methods), len(set(methods)))
                self.assertEqual(values & set(methods), set())
                self.assertEqual((values | set(methods)) & PYTHONS_OWN - METHODS - TWO_UNDERSCORES, set())
                self.assertEqual(values & METHODS, set())

    def test_walks(self):
        """What is only walked on the spot stands behind an `in` or straight within a call that walks it."""
        for name, source in sources().items():
            with self.subTest(file=name):
                fine = [node.iter for node in nodes(source, ast.For, ast.comprehension)]
                fine += [node.args[0] for node in nodes(source, ast.Call) if isinstance(node.func, ast.Name)
                         and node.func.id in ("list", "tuple", "dict", "sorted", "sum", "any", "all") and node.args]
                for node in nodes(source, ast.Call):
                    called = node.func.id if isinstance(node.func, ast.Name) else node.func.attr
                    if called in ("zip", "enumerate", "reversed", "range", "items", "keys", "values"):
                        self.assertIn(ast.dump(node), [ast.dump(one) for one in fine])
                    self.assertEqual(node.keywords, [])

    def test_the_top_of_a_file(self):
        for name, source in sources().items():
            with self.subTest(file=name):
                top = ast.parse(source).body
                self.assertEqual({type(node) for node in top[1:]} - {ast.Assign, ast.FunctionDef, ast.ClassDef}, set())
                self.assertIsInstance(top[0], ast.Expr)
                names = [node.targets[0].id for node in top if isinstance(node, ast.Assign)]
                names += [node.name for node in top[1:] if not isinstance(node, ast.Assign)]
                self.assertEqual(len(names), len(set(names)))
                for node in top[1:]:
                    if isinstance(node, ast.Assign):
                        ast.literal_eval(node.value)
