"""The package keeps to its part of Python: what can be seen of that in its files."""

import ast
import builtins
import pathlib
import re
import unittest

from shorttexts import blocks

PACKAGE = pathlib.Path(blocks.__file__).parent

NODES = """
Module Expr FunctionDef ClassDef ImportFrom alias arguments arg Return Assign AugAssign If While For Break Continue Pass
Name Load Store Constant List Tuple Dict BinOp Add Sub Mult FloorDiv Mod BitAnd BitOr BitXor LShift RShift UnaryOp USub
Not BoolOp And Or Compare Eq NotEq Lt LtE Gt GtE Is IsNot In NotIn IfExp Call keyword Attribute Subscript Slice ListComp
comprehension
""".split()
BUILTINS = """
len range enumerate zip min max sum abs sorted reversed int str bool list tuple dict isinstance ord repr any all divmod
""".split()
METHODS = """
append clear copy count endswith extend find get index insert isalnum isalpha isdigit islower isspace isupper items join
keys ljust lower lstrip partition pop remove replace reverse rfind rjust rpartition rsplit rstrip setdefault split
splitlines startswith strip update upper values zfill bit_length
""".split()
WORDS = """
type typing typing_extensions enum Enum IntEnum StrEnum Flag IntFlag Generic Protocol ABC ABCMeta namedtuple NamedTuple
TypedDict TYPE_CHECKING abstractmethod
""".split()


def sources():
    return {path.name: path.read_text(encoding="ascii") for path in sorted(PACKAGE.glob("*.py"))}


def trees():
    return {name: ast.parse(source) for name, source in sources().items()}


def nodes_of(kind):
    return [(name, node) for name, tree in trees().items() for node in ast.walk(tree) if isinstance(node, kind)]


def bound_names(tree):
    """Every name that a file binds: at its top, as a parameter, as a local."""
    names = set()
    for node in ast.walk(tree):
        if isinstance(node, (ast.FunctionDef, ast.ClassDef)):
            names.add(node.name)
        elif isinstance(node, ast.arg):
            names.add(node.arg)
        elif isinstance(node, ast.alias):
            names.add(node.name)
        elif isinstance(node, ast.Name) and isinstance(node.ctx, ast.Store):
            names.add(node.id)
    return names


class Files(unittest.TestCase):
    def test_nothing_but_plain_files(self):
        for path in PACKAGE.iterdir():
            if path.name != "__pycache__":
                self.assertRegex(path.name, r"^(__init__|[a-z][a-z0-9_]*)\.py$")

    def test_sizes_and_signs(self):
        for name, source in sources().items():
            self.assertLessEqual(set(source), {"\n"} | {chr(sign) for sign in range(32, 127)}, name)
            rows = source.split("\n")
            self.assertLessEqual(len(rows), 400, name)
            self.assertLessEqual(max(map(len, rows)), 120, name)
        for name, node in nodes_of(ast.FunctionDef):
            self.assertLessEqual(node.end_lineno - node.lineno + 1, 40, node.name)

    def test_words_that_stand_nowhere(self):
        for name, source in sources().items():
            self.assertFalse(set(re.findall(r"\w+", source)) & set(WORDS), name)

    def test_only_the_package_s_own_is_imported(self):
        for name, node in nodes_of((ast.Import, ast.ImportFrom)):
            self.assertIsInstance(node, ast.ImportFrom)
            self.assertEqual((node.level, node.module.split(".")[0]), (0, "shorttexts"))
            self.assertNotEqual(node.module, "shorttexts." + name[:-3])
            self.assertTrue(all(alias.asname is None and alias.name != "*" for alias in node.names))


class Code(unittest.TestCase):
    def test_only_the_forms_that_are_told(self):
        for name, node in nodes_of(ast.AST):
            self.assertIn(node.__class__.__name__, NODES, (name, getattr(node, "lineno", 0)))

    def test_assignments(self):
        for name, node in nodes_of(ast.Assign):
            self.assertEqual(len(node.targets), 1)
            self.assertNotIsInstance(node.targets[0], (ast.Tuple, ast.List), (name, node.lineno))

    def test_functions_and_classes(self):
        for name, node in nodes_of(ast.FunctionDef):
            told = node.args
            self.assertFalse(told.vararg or told.kwarg or told.kwonlyargs or told.posonlyargs or node.decorator_list)
        for name, node in nodes_of(ast.ClassDef):
            self.assertFalse(node.bases or node.keywords or node.decorator_list)
            self.assertTrue(all(isinstance(row, ast.FunctionDef) for row in node.body))

    def test_names(self):
        for file, tree in trees().items():
            bound = bound_names(tree)
            self.assertFalse(bound & set(dir(builtins)), file)
            for name in bound - {"__init__"}:
                self.assertRegex(name, r"^[A-Za-z][A-Za-z0-9_]*$")
            for node in ast.walk(tree):
                if isinstance(node, ast.Name):
                    self.assertIn(node.id, bound | set(BUILTINS), (file, node.lineno))

    def test_a_name_is_bound_once_at_a_file_s_top(self):
        for file, tree in trees().items():
            names = []
            for row in tree.body:
                if isinstance(row, ast.Assign):
                    names.append(row.targets[0].id)
                elif isinstance(row, ast.ImportFrom):
                    names += [alias.name for alias in row.names]
                elif isinstance(row, (ast.FunctionDef, ast.ClassDef)):
                    names.append(row.name)
            self.assertEqual(len(names), len(set(names)), file)

    def test_methods_and_values(self):
        methods, values = set(), set()
        for name, node in nodes_of(ast.ClassDef):
            methods |= {row.name for row in node.body}
            values |= {part.attr for part in ast.walk(node) if isinstance(part, ast.Attribute)
                       and isinstance(part.ctx, ast.Store)}
        self.assertFalse(methods & values)
        for name, node in nodes_of(ast.Attribute):
            self.assertIn(node.attr, methods | values | set(METHODS), (name, node.lineno))


if __name__ == "__main__":
    unittest.main()
