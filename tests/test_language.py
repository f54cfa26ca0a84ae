"""The package keeps to its small part of Python, as far as a look at its files can tell."""

import ast
import pathlib
import re
import unittest

PACKAGE = pathlib.Path(__file__).resolve().parent.parent / "sealedblocks"
FILES = sorted(PACKAGE.rglob("*.py"))

NODES = """
Module Expr Constant ImportFrom alias FunctionDef arguments arg ClassDef Assign Name Load Store Attribute Subscript
Slice Tuple List Dict Call Return If While For Break Continue Pass BinOp UnaryOp BoolOp Compare IfExp ListComp
comprehension Add Sub Mult Mod FloorDiv BitXor BitAnd BitOr LShift RShift USub Not And Or Eq NotEq Lt LtE Gt GtE Is
IsNot In NotIn
""".split()
BUILT_IN = """
len range enumerate zip min max sum abs sorted reversed int str bool list tuple dict set frozenset isinstance ord repr
any all divmod
""".split()
METHODS = """
append clear copy count endswith extend find get index insert isalnum isalpha isdigit islower isspace isupper items
join keys ljust lower lstrip partition pop remove replace reverse rfind rjust rpartition rsplit rstrip setdefault split
splitlines startswith strip update upper values zfill bit_length
""".split()
WORDS = """
type typing typing_extensions enum Enum IntEnum StrEnum Flag IntFlag Generic Protocol ABC ABCMeta namedtuple NamedTuple
TypedDict TYPE_CHECKING abstractmethod register mro elements open input eval exec id super vars dir getattr setattr
""".split()
PYTHONS_OWN = set(dir(__builtins__) if not isinstance(__builtins__, dict) else __builtins__)


def trees():
    return [(path, ast.parse(path.read_text())) for path in FILES]


def nodes(kind):
    return [(path, node) for path, tree in trees() for node in ast.walk(tree) if isinstance(node, kind)]


class Language(unittest.TestCase):
    def test_nothing_else_lies_in_the_package(self):
        found = [path.relative_to(PACKAGE).as_posix() for path in PACKAGE.rglob("*") if "__pycache__" not in path.parts]
        self.assertEqual([name for name in found if not re.fullmatch(r"[a-z_0-9]+\.py", name)], [])
        self.assertIn("__init__.py", found)

    def test_sizes_and_signs(self):
        for path in FILES:
            text = path.read_text()
            rows = text.split("\n")
            self.assertLessEqual(len(rows), 399, path)
            self.assertLessEqual(max(len(line) for line in rows), 120, path)
            self.assertRegex(text, r"\A[ -~\n]*\Z", path)
        for path, node in nodes(ast.FunctionDef):
            self.assertLessEqual(node.end_lineno - node.lineno + 1, 40, (path, node.name))

    def test_words(self):
        for path in FILES:
            text = path.read_text()
            self.assertEqual(set(re.findall(r"\w+", text)) & set(WORDS), set(), path)
            self.assertNotRegex(text, "dataclass|overload|contextmanager", path)

    def test_statements_and_expressions(self):
        for path, node in nodes(ast.AST):
            self.assertIn(type(node).__name__, NODES, (path, getattr(node, "lineno", 0)))

    def test_loops_assignments_and_comprehensions(self):
        for path, node in nodes((ast.For, ast.While)):
            self.assertEqual(node.orelse, [], (path, node.lineno))
        for path, node in nodes(ast.Assign):
            self.assertEqual(len(node.targets), 1, (path, node.lineno))
        for path, node in nodes(ast.ListComp):
            self.assertEqual(len(node.generators), 1, (path, node.lineno))
        for path, node in nodes(ast.FunctionDef):
            self.assertEqual(node.decorator_list, [], (path, node.lineno))

    def test_imports_are_the_packages_own_by_the_defining_file(self):
        for path, node in nodes(ast.ImportFrom):
            self.assertRegex(node.module, r"\Asealedblocks\.[a-z]+\Z", path)
            self.assertEqual(node.level, 0, path)
            source = ast.parse((PACKAGE / (node.module.split(".")[1] + ".py")).read_text())
            defined = [top.name for top in source.body if isinstance(top, (ast.FunctionDef, ast.ClassDef))]
            for name in node.names:
                self.assertIn(name.name, defined, path)
                self.assertIsNone(name.asname, path)

    def test_names_that_are_bound_are_not_pythons_own_nor_imports(self):
        for path, tree in trees():
            taken = {name.name for node in ast.walk(tree) if isinstance(node, ast.ImportFrom) for name in node.names}
            taken |= {node.name for node in ast.walk(tree) if isinstance(node, ast.ClassDef)}
            names = [node for node in ast.walk(tree) if isinstance(node, ast.Name)]
            bound = [node.id for node in names if isinstance(node.ctx, ast.Store)]
            bound += [node.arg for node in ast.walk(tree) if isinstance(node, ast.arg)]
            for name in bound:
                self.assertNotIn(name, PYTHONS_OWN | taken, path)
                self.assertRegex(name, r"\A[A-Za-z]\w*\Z", path)

    def test_names_that_are_called_or_read(self):
        own = {node.name for _, node in nodes((ast.FunctionDef, ast.ClassDef))}
        for path, node in nodes(ast.Name):
            if node.id in PYTHONS_OWN:
                self.assertIn(node.id, BUILT_IN, (path, node.lineno))
        for path, node in nodes(ast.Call):
            if isinstance(node.func, ast.Attribute):
                self.assertIn(node.func.attr, set(METHODS) | own, (path, node.lineno))
            self.assertEqual(node.keywords, [], (path, node.lineno))
