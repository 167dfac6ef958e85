"""The package's own files keep to the small part of Python that the program is written in."""

import ast
import builtins
import pathlib
import re
import unittest

import unitformulas

FOLDER = pathlib.Path(unitformulas.__file__).parent

BUILTINS = """len range enumerate zip min max sum abs sorted reversed int str bool list tuple dict set frozenset
isinstance ord repr any all divmod Exception ValueError TypeError KeyError IndexError LookupError ZeroDivisionError
ArithmeticError OverflowError RuntimeError NotImplementedError AttributeError StopIteration""".split()

METHODS = """append clear copy count endswith extend find get index insert isalnum isalpha isdigit islower isspace
isupper items join keys ljust lower lstrip partition pop remove replace reverse rfind rjust rpartition rsplit rstrip
setdefault split splitlines startswith strip update upper values zfill bit_length""".split()

WORDS = """type typing typing_extensions enum Enum IntEnum StrEnum Flag IntFlag Generic Protocol ABC ABCMeta
namedtuple NamedTuple TypedDict TYPE_CHECKING abstractmethod""".split()

# No import is among them: the interface says that the program imports nothing.
NODES = """Module FunctionDef ClassDef arguments arg Assign AugAssign If While For Return Break Continue Pass Raise
Expr Call Attribute Subscript Slice Name Load Store Constant List Tuple Dict ListComp comprehension BinOp UnaryOp
BoolOp Compare IfExp JoinedStr FormattedValue Add Sub Mult FloorDiv Mod USub Not And Or Eq NotEq Lt LtE Gt GtE In
NotIn Is IsNot""".split()


def files():
    return [path for path in sorted(FOLDER.rglob("*")) if "__pycache__" not in path.parts]


def sources():
    return [(path.name, path.read_text(encoding="utf-8")) for path in files() if path.suffix == ".py"]


def trees():
    return [(name, ast.parse(text)) for name, text in sources()]


def nodes_of(*kinds):
    return [(name, node) for name, tree in trees() for node in ast.walk(tree) if isinstance(node, kinds)]


def bound_names():
    found = []
    for name, node in nodes_of(ast.Name, ast.arg, ast.FunctionDef, ast.ClassDef):
        if isinstance(node, ast.arg):
            found.append((name, node.lineno, node.arg))
        elif not isinstance(node, ast.Name):
            found.append((name, node.lineno, node.name))
        elif isinstance(node.ctx, ast.Store):
            found.append((name, node.lineno, node.id))
    return found


class Language(unittest.TestCase):
    def test_files(self):
        for path in files():
            self.assertRegex(path.name, r"\A(__init__|[a-z][a-z0-9_]*)\.py\Z")

    def test_size_and_signs(self):
        for name, text in sources():
            rows = text.split("\n")
            self.assertLessEqual(len(rows), 401, name)
            for number, row in enumerate(rows, start=1):
                self.assertLessEqual(len(row), 120, (name, number))
                self.assertRegex(row, r"\A[ -~]*\Z", (name, number))
        for name, node in nodes_of(ast.FunctionDef):
            self.assertLessEqual(node.end_lineno - node.lineno + 1, 40, (name, node.name))

    def test_words(self):
        for name, text in sources():
            found = set(re.findall(r"\w+", text)) & set(WORDS)
            self.assertEqual(found, set(), name)

    def test_statements_and_expressions(self):
        for name, node in nodes_of(ast.AST):
            self.assertIn(node.__class__.__name__, NODES, (name, getattr(node, "lineno", 0)))

    def test_assignments_have_one_plain_target(self):
        for name, node in nodes_of(ast.Assign):
            self.assertEqual(len(node.targets), 1, (name, node.lineno))
            self.assertNotIsInstance(node.targets[0], (ast.Tuple, ast.List), (name, node.lineno))

    def test_loops_have_no_else(self):
        for name, node in nodes_of(ast.For, ast.While):
            self.assertEqual(node.orelse, [], (name, node.lineno))

    def test_functions_have_plain_parameters(self):
        for name, node in nodes_of(ast.FunctionDef):
            args = node.args
            self.assertEqual((args.vararg, args.kwarg, args.kwonlyargs, node.decorator_list), (None, None, [], []), name)

    def test_constants(self):
        for name, node in nodes_of(ast.Constant):
            self.assertTrue(node.value is None or isinstance(node.value, (int, str)), (name, node.lineno))

    def test_is_stands_beside_none_alone(self):
        for name, node in nodes_of(ast.Compare):
            if any(isinstance(sign, (ast.Is, ast.IsNot)) for sign in node.ops):
                self.assertIsNone(node.comparators[0].value, (name, node.lineno))

    def test_own_names(self):
        for name, line, bound in bound_names():
            self.assertNotIn(bound, vars(builtins), (name, line))
            if bound != "__init__":
                self.assertRegex(bound, r"\A[A-Za-z][A-Za-z0-9_]*\Z", (name, line))

    def test_pythons_own_names(self):
        for name, node in nodes_of(ast.Name):
            if node.id in vars(builtins):
                self.assertIn(node.id, BUILTINS, (name, node.lineno))

    def test_attributes_are_own_or_free_methods(self):
        own = {node.name for name, node in nodes_of(ast.FunctionDef)}
        own |= {node.attr for name, node in nodes_of(ast.Attribute) if isinstance(node.ctx, ast.Store)}
        for name, node in nodes_of(ast.Attribute):
            self.assertTrue(node.attr in own or node.attr in METHODS, (name, node.lineno, node.attr))

    def test_a_name_is_bound_once_at_the_top(self):
        for name, tree in trees():
            bound = [node.name for node in tree.body if isinstance(node, (ast.FunctionDef, ast.ClassDef))]
            bound += [node.targets[0].id for node in tree.body if isinstance(node, ast.Assign)]
            self.assertEqual(len(bound), len(set(bound)), name)


if __name__ == "__main__":
    unittest.main()
