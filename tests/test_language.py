"""Those rules of the language that a walk over the files shows plainly; the others are kept by reading."""

import ast
import builtins
import pathlib
import re
import unittest

PACKAGE = pathlib.Path(__file__).resolve().parent.parent / "stairtable"

NODES = """Module Import ImportFrom alias FunctionDef arguments arg ClassDef Assign AugAssign If While For Return Break
Continue Pass Raise Try ExceptHandler Expr Constant List Tuple Dict Set Name Attribute Subscript Slice Call keyword
Lambda IfExp BinOp UnaryOp BoolOp Compare ListComp comprehension JoinedStr FormattedValue Load Store Add Sub Mult
FloorDiv Mod Pow LShift RShift BitOr BitAnd BitXor Invert Not USub UAdd And Or Eq NotEq Lt LtE Gt GtE Is IsNot In
NotIn""".split()

OWN_NAMES = """len range enumerate zip min max sum abs sorted reversed int str bool list tuple dict set frozenset
isinstance ord repr any all divmod Exception ValueError TypeError KeyError IndexError LookupError ZeroDivisionError
ArithmeticError OverflowError RuntimeError NotImplementedError AttributeError StopIteration""".split()

METHODS = """append clear copy count endswith extend find get index insert isalnum isalpha isdigit islower isspace
isupper items join keys ljust lower lstrip partition pop remove replace reverse rfind rjust rpartition rsplit rstrip
setdefault split splitlines startswith strip update upper values zfill bit_length""".split()

WORDS = re.compile(r"\b(type|typing|typing_extensions|enum|Enum|IntEnum|StrEnum|Flag|IntFlag|Generic|Protocol|ABC|"
                   r"ABCMeta|namedtuple|NamedTuple|TypedDict|TYPE_CHECKING|abstractmethod)\b"
                   r"|dataclass|overload|contextmanager")


def sources():
    return [(path, path.read_text(encoding="utf-8")) for path in sorted(PACKAGE.glob("*.py"))]


def nodes(wanted):
    return [(path.name, node) for path, text in sources() for node in ast.walk(ast.parse(text))
            if isinstance(node, wanted)]


def drawn_from(path):
    return [node.module for node in ast.parse(path.read_text(encoding="utf-8")).body
            if isinstance(node, ast.ImportFrom)]


class Files(unittest.TestCase):
    def test_nothing_but_plainly_named_files(self):
        self.assertTrue((PACKAGE / "__init__.py").is_file())
        for path in PACKAGE.iterdir():
            if path.name != "__pycache__":
                self.assertRegex(path.name, r"\A([a-z][a-z0-9_]*|__init__|__main__)\.py\Z")

    def test_size_and_signs(self):
        for path, text in sources():
            self.assertRegex(text, r"\A[ -~\n]*\Z", path.name)
            self.assertLessEqual(len(text.splitlines()), 400, path.name)
            self.assertLessEqual(max(map(len, text.splitlines())), 120, path.name)

    def test_words_that_stand_nowhere(self):
        for path, text in sources():
            self.assertIsNone(WORDS.search(text), path.name)

    def test_imports_are_the_packages_own_and_go_one_way(self):
        above = {}
        for path, _ in sources():
            above["stairtable." + path.stem] = drawn_from(path)
        self.assertEqual(above["stairtable.__init__"], [])
        settled = []
        while len(settled) < len(above):
            free = [name for name in above if name not in settled and set(above[name]) <= set(settled)]
            self.assertTrue(free, "imports in a ring, or from outside")
            settled += free
        self.assertEqual(nodes(ast.Import), [])


class Forms(unittest.TestCase):
    def test_only_the_forms_that_are_listed(self):
        for name, node in nodes(ast.AST):
            self.assertIn(type(node).__name__, NODES, (name, getattr(node, "lineno", None)))

    def test_functions(self):
        for name, node in nodes(ast.FunctionDef):
            said = (name, node.lineno)
            self.assertLessEqual(node.end_lineno - node.lineno + 1, 40, said)
            self.assertEqual(node.decorator_list, [], said)
            given = node.args
            self.assertFalse(given.vararg or given.kwarg or given.kwonlyargs or given.posonlyargs, said)

    def test_one_target_and_no_else_behind_a_loop(self):
        for name, node in nodes(ast.Assign):
            self.assertEqual(len(node.targets), 1, (name, node.lineno))
        for name, node in nodes((ast.For, ast.While)):
            self.assertEqual(node.orelse, [], (name, node.lineno))

    def test_one_for_in_a_comprehension(self):
        for name, node in nodes(ast.ListComp):
            self.assertEqual(len(node.generators), 1, (name, node.lineno))
            self.assertLessEqual(len(node.generators[0].ifs), 1, (name, node.lineno))

    def test_values(self):
        for name, node in nodes(ast.Constant):
            self.assertIn(type(node.value), (int, str, bool, type(None)), (name, node.lineno))

    def test_a_text_by_itself_is_a_docstring_of_a_file(self):
        for path, text in sources():
            for node in ast.walk(ast.parse(text)):
                if isinstance(node, ast.Expr) and not isinstance(node.value, ast.Call):
                    self.assertEqual(node.lineno, 1, (path.name, node.lineno))


class Names(unittest.TestCase):
    def test_names_of_pythons_own(self):
        for name, node in nodes(ast.Name):
            if hasattr(builtins, node.id):
                self.assertIn(node.id, OWN_NAMES, (name, node.lineno))
                self.assertIsInstance(node.ctx, ast.Load, (name, node.lineno))
        for name, node in nodes(ast.arg):
            self.assertFalse(hasattr(builtins, node.arg), (name, node.lineno))

    def test_no_name_begins_with_an_underscore(self):
        for name, node in nodes((ast.Name, ast.arg, ast.FunctionDef, ast.ClassDef)):
            word = getattr(node, "id", None) or getattr(node, "arg", None) or node.name
            if word not in ("__init__", "__eq__", "__repr__", "__str__", "__len__"):
                self.assertFalse(word.startswith("_"), (name, node.lineno))

    def test_methods(self):
        own = [node.name for _, node in nodes(ast.FunctionDef)]
        for name, node in nodes(ast.Call):
            if isinstance(node.func, ast.Attribute):
                self.assertIn(node.func.attr, METHODS + own, (name, node.lineno))

    def test_values_of_objects(self):
        methods = [part.name for _, node in nodes(ast.ClassDef) for part in node.body
                   if isinstance(part, ast.FunctionDef)]
        pythons = [word for kind in (str, int, list, tuple, dict, set, bytes, ValueError) for word in dir(kind)]
        for name, node in nodes(ast.Attribute):
            if isinstance(node.ctx, ast.Store):
                self.assertNotIn(node.attr, methods + pythons, (name, node.lineno))
                self.assertFalse(node.attr.startswith("_"), (name, node.lineno))


class Errors(unittest.TestCase):
    def test_errors_are_taken_by_the_name_of_a_class_of_the_package(self):
        own = [node.name for name, node in nodes(ast.ClassDef) if name == "errors.py"]
        for name, node in nodes(ast.ExceptHandler):
            self.assertIsInstance(node.type, ast.Name, (name, node.lineno))
            self.assertIn(node.type.id, own, (name, node.lineno))
        for name, node in nodes(ast.Raise):
            self.assertIsInstance(node.exc, ast.Call, (name, node.lineno))
            self.assertIn(node.exc.func.id, own, (name, node.lineno))

    def test_no_finally(self):
        for name, node in nodes(ast.Try):
            self.assertEqual(node.finalbody, [], (name, node.lineno))


if __name__ == "__main__":
    unittest.main()
