"""Holds the package's own files to the part of Python that the program keeps to."""

import ast
import builtins
import pathlib
import re
import unittest

PACKAGE = pathlib.Path(__file__).resolve().parent.parent / "fanout"
FILES = sorted(path for path in PACKAGE.rglob("*") if path.is_file() and "__pycache__" not in path.parts)
OWN_NAMES = set("""len range enumerate zip min max sum abs sorted reversed int str bool list tuple dict set frozenset
    isinstance ord repr any all divmod Exception ValueError TypeError KeyError IndexError LookupError
    ZeroDivisionError ArithmeticError OverflowError RuntimeError NotImplementedError AttributeError
    StopIteration""".split())
METHODS = set("""append clear copy count endswith extend find get index insert isalnum isalpha isdigit islower isspace
    isupper items join keys ljust lower lstrip partition pop remove replace reverse rfind rjust rpartition rsplit
    rstrip setdefault split splitlines startswith strip update upper values zfill bit_length""".split())
NODES = """Module Import ImportFrom alias FunctionDef arguments arg ClassDef Return Assign AugAssign For While If Raise
    Try ExceptHandler Expr Pass Break Continue BoolOp BinOp UnaryOp Lambda IfExp Dict Set ListComp comprehension Compare
    Call keyword JoinedStr FormattedValue Constant Attribute Subscript Slice Name List Tuple Load Store
    And Or Add Sub Mult Mod Pow LShift RShift BitOr BitXor BitAnd FloorDiv Invert Not UAdd USub
    Eq NotEq Lt LtE Gt GtE Is IsNot In NotIn""".split()
WORDS = """type typing typing_extensions enum Enum IntEnum StrEnum Flag IntFlag Generic Protocol ABC ABCMeta namedtuple
    NamedTuple TypedDict TYPE_CHECKING abstractmethod""".split()
PLAIN = (ast.Constant, ast.List, ast.Tuple, ast.Dict, ast.UnaryOp, ast.USub, ast.Load)


def nodes(path, *kinds):
    return [node for node in ast.walk(ast.parse(path.read_text())) if isinstance(node, kinds or ast.AST)]


class Form(unittest.TestCase):
    def each_file(self):
        self.assertIn(PACKAGE / "services.py", FILES)
        return FILES

    def test_files(self):
        for path in self.each_file():
            self.assertRegex(path.name, r"^(__init__|[a-z][a-z0-9_]*)\.py$")
            self.assertTrue((path.parent / "__init__.py").is_file())

    def test_signs_and_sizes(self):
        for path in self.each_file():
            text = path.read_bytes().decode("utf-8")
            self.assertRegex(text, r"\A[ -~\n]*\Z")
            self.assertLessEqual(len(text.splitlines()), 400)
            self.assertLessEqual(max(len(line) for line in text.splitlines()), 120)
            for node in nodes(path, ast.FunctionDef):
                self.assertLessEqual(node.end_lineno - node.lineno + 1, 40, node.name)

    def test_words_that_stand_nowhere(self):
        for path in self.each_file():
            text = path.read_text()
            self.assertEqual([word for word in WORDS if re.search(rf"\b{word}\b", text)], [])
            self.assertNotRegex(text, "dataclass|overload|contextmanager")

    def test_imports_are_the_packages_own(self):
        for path in self.each_file():
            self.assertEqual(nodes(path, ast.Import), [])
            for node in nodes(path, ast.ImportFrom):
                self.assertRegex(f"{node.level} {node.module}", r"^0 fanout\.")

    def test_statements_and_expressions(self):
        for path in self.each_file():
            for node in nodes(path):
                self.assertIn(node.__class__.__name__, NODES, getattr(node, "lineno", None))
                if isinstance(node, ast.Constant) and node.value is not None:
                    self.assertIn(node.value.__class__, (int, str, bool))
                if isinstance(node, (ast.FunctionDef, ast.ClassDef)):
                    self.assertEqual(node.decorator_list, [])
                if isinstance(node, (ast.For, ast.While)):
                    self.assertEqual(node.orelse, [])
                if isinstance(node, ast.ListComp):
                    self.assertEqual(len(node.generators), 1)
                    self.assertLessEqual(len(node.generators[0].ifs), 1)

    def test_a_modules_top(self):
        for path in self.each_file():
            bound = []
            for node in ast.parse(path.read_text()).body:
                if isinstance(node, ast.Assign):
                    bound.append(node.targets[0].id)
                    self.assertTrue(all(isinstance(part, PLAIN) for part in ast.walk(node.value)), node.lineno)
                elif isinstance(node, (ast.FunctionDef, ast.ClassDef)):
                    bound.append(node.name)
                else:
                    self.assertIsInstance(node, (ast.Expr, ast.ImportFrom), node.lineno)
            self.assertEqual(len(bound), len(set(bound)))

    def test_names(self):
        for path in self.each_file():
            classes = [node.name for node in nodes(path, ast.ClassDef)]
            given = [node.id for node in nodes(path, ast.Name) if isinstance(node.ctx, ast.Store)]
            given += [node.arg for node in nodes(path, ast.arg)]
            for name in given:
                self.assertRegex(name, "^[A-Za-z]")
                self.assertFalse(hasattr(builtins, name) or name in classes, name)
            read = {node.id for node in nodes(path, ast.Name)}
            self.assertEqual(sorted(name for name in read if hasattr(builtins, name) and name not in OWN_NAMES), [])

    def test_methods_and_values(self):
        methods, values, called = set(), set(), set()
        for path in self.each_file():
            for node in nodes(path, ast.ClassDef):
                methods |= {part.name for part in node.body if isinstance(part, ast.FunctionDef)}
                self.assertTrue(all(isinstance(part, ast.FunctionDef) for part in node.body), node.name)
            values |= {node.attr for node in nodes(path, ast.Attribute) if isinstance(node.ctx, ast.Store)}
            called |= {node.func.attr for node in nodes(path, ast.Call) if isinstance(node.func, ast.Attribute)}
        self.assertEqual(methods & values, set())
        self.assertEqual(called - METHODS - methods, set())
        for kind in (str, int, list, dict, set, bytes, tuple):
            self.assertEqual({name for name in (methods | values) - {"__init__"} if hasattr(kind, name)}, set())


if __name__ == "__main__":
    unittest.main()
