"""The form of the package's files: the rules of LANGUAGE.md that can be read off them."""

import ast
import builtins
import pathlib
import re
import unittest

PACKAGE = pathlib.Path(__file__).resolve().parent.parent / "flashgrades"

ALLOWED_NODES = """
    Module Expr Constant ImportFrom alias FunctionDef ClassDef arguments arg Return Assign AugAssign
    If IfExp While For Break Continue Pass Raise Try ExceptHandler Call Attribute Subscript Slice Name
    Load Store List Tuple Dict Set ListComp comprehension Lambda JoinedStr FormattedValue keyword
    BinOp UnaryOp BoolOp Compare Add Sub Mult FloorDiv Mod Pow BitAnd BitOr BitXor LShift RShift
    Invert USub UAdd Not And Or Eq NotEq Lt LtE Gt GtE Is IsNot In NotIn
""".split()

PYTHONS_OWN = """
    len range enumerate zip min max sum abs sorted reversed int str bool list tuple dict set frozenset
    isinstance ord repr any all divmod Exception ValueError TypeError KeyError IndexError LookupError
    ZeroDivisionError ArithmeticError OverflowError RuntimeError NotImplementedError AttributeError
    StopIteration
""".split()

METHODS = """
    append clear copy count endswith extend find get index insert isalnum isalpha isdigit islower
    isspace isupper items join keys ljust lower lstrip partition pop remove replace reverse rfind
    rjust rpartition rsplit rstrip setdefault split splitlines startswith strip update upper values
    zfill bit_length
""".split()

WORDS_LEFT_OUT = """
    type typing typing_extensions enum Enum IntEnum StrEnum Flag IntFlag Generic Protocol ABC ABCMeta
    namedtuple NamedTuple TypedDict TYPE_CHECKING abstractmethod
""".split()

DUNDER_METHODS = ("__init__", "__eq__", "__repr__", "__str__", "__len__")


def trees():
    return [(path, ast.parse(path.read_text())) for path in sorted(PACKAGE.glob("*.py"))]


def nodes(kind):
    return [(path, node) for path, tree in trees() for node in ast.walk(tree) if isinstance(node, kind)]


class Files(unittest.TestCase):
    def test_nothing_but_python_files_with_plain_names(self):
        names = [path.name for path in PACKAGE.iterdir() if path.name != "__pycache__"]
        self.assertIn("__init__.py", names)
        self.assertIn("stages.py", names)
        for name in names:
            self.assertRegex(name, r"\A([a-z][a-z0-9_]*|__init__|__main__)\.py\Z")

    def test_sizes_and_signs(self):
        for path in PACKAGE.glob("*.py"):
            text = path.read_bytes().decode("ascii")
            self.assertRegex(text, r"\A[ -~\n]*\Z")
            self.assertLessEqual(len(text.splitlines()), 399, path)
            self.assertLessEqual(max([0] + [len(line) for line in text.splitlines()]), 120, path)

    def test_words_that_stand_nowhere(self):
        for path in PACKAGE.glob("*.py"):
            text = path.read_text()
            self.assertEqual(set(re.findall(r"\w+", text)) & set(WORDS_LEFT_OUT), set(), path)
            self.assertNotRegex(text, "dataclass|overload|contextmanager")

    def test_functions_have_at_most_40_lines(self):
        for path, node in nodes(ast.FunctionDef):
            self.assertLessEqual(node.end_lineno - node.lineno + 1, 40, (path, node.name))


class Language(unittest.TestCase):
    def test_only_the_part_of_python_that_is_allowed(self):
        for path, node in nodes(ast.AST):
            self.assertIn(node.__class__.__name__, ALLOWED_NODES, (path, getattr(node, "lineno", 0)))

    def test_whole_numbers_and_texts_alone(self):
        for path, node in nodes(ast.Constant):
            self.assertIn(node.value.__class__, (int, str, bool, None.__class__), (path, node.lineno))

    def test_imports_from_the_package_alone(self):
        for path, node in nodes(ast.ImportFrom):
            self.assertEqual(node.level, 0)
            self.assertTrue(node.module.startswith("flashgrades."), (path, node.module))
            self.assertNotIn("*", [name.name for name in node.names])

    def test_one_target_and_no_else_behind_a_loop(self):
        for path, node in nodes(ast.Assign):
            self.assertEqual(len(node.targets), 1, (path, node.lineno))
        for path, node in nodes((ast.For, ast.While)):
            self.assertEqual(node.orelse, [], (path, node.lineno))

    def test_names(self):
        for path, node in nodes((ast.FunctionDef, ast.ClassDef)):
            self.assertEqual(node.decorator_list, [], (path, node.lineno))
        for path, node in nodes((ast.FunctionDef, ast.ClassDef, ast.arg, ast.Name, ast.Attribute)):
            name = next(getattr(node, field) for field in ("name", "arg", "id", "attr") if hasattr(node, field))
            if name not in DUNDER_METHODS:
                self.assertRegex(name, r"\A[A-Za-z][A-Za-z0-9_]*\Z", (path, node.lineno))

    def test_pythons_own_names(self):
        for path, node in nodes(ast.Name):
            if hasattr(builtins, node.id):
                self.assertIn(node.id, PYTHONS_OWN, (path, node.lineno))
                self.assertIsInstance(node.ctx, ast.Load, (path, node.lineno))
        for path, node in nodes(ast.arg):
            self.assertFalse(hasattr(builtins, node.arg), (path, node.lineno))

    def test_methods(self):
        own = {node.name for path, node in nodes(ast.FunctionDef)}
        for path, node in nodes(ast.Call):
            if isinstance(node.func, ast.Attribute):
                self.assertIn(node.func.attr, own | set(METHODS), (path, node.lineno))

    def test_answers_stands_in_its_file_as_a_plain_function(self):
        places = [(path.name, node) for path, node in nodes(ast.FunctionDef) if node.name == "answers"]
        self.assertEqual([name for name, node in places], ["stages.py"])
        arguments = places[0][1].args
        self.assertEqual([argument.arg for argument in arguments.args], ["calls"])
        self.assertEqual(arguments.defaults, [])


if __name__ == "__main__":
    unittest.main()
