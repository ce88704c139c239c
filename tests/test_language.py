"""The package's files keep to the small part of Python, as far as a look at their form can tell."""

import ast
import builtins
import pathlib
import re
import unittest

PACKAGE = pathlib.Path(__file__).resolve().parent.parent / "lawwords"

NODES = """Module FunctionDef ClassDef arguments arg Assign AugAssign If While For Return Break Continue Pass Raise Try
ExceptHandler Expr ImportFrom alias Constant Name Load Store Attribute Subscript Slice Call keyword BinOp UnaryOp BoolOp
Compare IfExp List Tuple Dict ListComp comprehension Lambda JoinedStr FormattedValue Add Sub Mult FloorDiv Mod Pow
BitAnd BitOr BitXor LShift RShift Invert USub UAdd Not And Or Eq NotEq Lt LtE Gt GtE Is IsNot In NotIn""".split()

OWN = """len range enumerate zip min max sum abs sorted reversed int str bool list tuple dict set frozenset isinstance ord
repr any all divmod Exception ValueError TypeError KeyError IndexError LookupError ZeroDivisionError ArithmeticError
OverflowError RuntimeError NotImplementedError AttributeError StopIteration""".split()

METHODS = """append clear copy count endswith extend find get index insert isalnum isalpha isdigit islower isspace isupper
items join keys ljust lower lstrip partition pop remove replace reverse rfind rjust rpartition rsplit rstrip setdefault
split splitlines startswith strip update upper values zfill bit_length""".split()

NOT_WRITTEN = re.compile(r"\b(type|typing|typing_extensions|enum|Enum|IntEnum|StrEnum|Flag|IntFlag|Generic|Protocol|ABC"
                         r"|ABCMeta|namedtuple|NamedTuple|TypedDict|TYPE_CHECKING|abstractmethod)\b"
                         r"|dataclass|overload|contextmanager")


def sources():
    return sorted(PACKAGE.glob("*.py"))


def nodes(path):
    return list(ast.walk(ast.parse(path.read_text())))


def is_text(node):
    return isinstance(node, ast.Expr) and isinstance(node.value, ast.Constant)


class Language(unittest.TestCase):
    def test_files(self):
        names = [path.name for path in PACKAGE.iterdir() if path.name != "__pycache__"]
        self.assertIn("__init__.py", names)
        self.assertIn("laws.py", names)
        for name in names:
            self.assertRegex(name, r"^(__init__|[a-z][a-z0-9_]*)\.py$")
            self.assertNotIn(name[:-3], dir(builtins))

    def test_signs_and_sizes(self):
        for path in sources():
            rows = path.read_bytes().decode("ascii").split("\n")
            self.assertLessEqual(len(rows), 400)
            for row in rows:
                self.assertRegex(row, r"^[ -~]{0,120}$")
                self.assertIsNone(NOT_WRITTEN.search(row), row)
            for node in nodes(path):
                if isinstance(node, ast.FunctionDef):
                    self.assertLessEqual(node.end_lineno - node.lineno + 1, 40)

    def test_statements_and_expressions(self):
        for path in sources():
            for node in nodes(path):
                self.assertIn(node.__class__.__name__, NODES, (path.name, getattr(node, "lineno", None)))
                if isinstance(node, (ast.FunctionDef, ast.ClassDef)):
                    self.assertEqual(node.decorator_list, [])
                    self.assertFalse(is_text(node.body[0]), (path.name, node.lineno))
                if isinstance(node, (ast.While, ast.For)):
                    self.assertEqual(node.orelse, [])
                if isinstance(node, ast.Assign):
                    self.assertEqual(len(node.targets), 1)
                if isinstance(node, ast.ListComp):
                    self.assertEqual(len(node.generators), 1)
                    self.assertLessEqual(len(node.generators[0].ifs), 1)
                if isinstance(node, ast.Constant):
                    self.assertIn(node.value.__class__, (int, str, bool, None.__class__))
                if isinstance(node, ast.Compare) and isinstance(node.ops[0], (ast.Is, ast.IsNot)):
                    self.assertIsInstance(node.comparators[0], ast.Constant)

    def test_top_of_each_file(self):
        for path in sources():
            body = ast.parse(path.read_text()).body
            self.assertTrue(is_text(body[0]))
            bound = []
            for node in body[1:]:
                self.assertIsInstance(node, (ast.ImportFrom, ast.FunctionDef, ast.ClassDef, ast.Assign))
                if isinstance(node, (ast.FunctionDef, ast.ClassDef)):
                    bound.append(node.name)
                elif isinstance(node, ast.ImportFrom):
                    bound.extend(one.name for one in node.names)
                else:
                    bound.append(node.targets[0].id)
            self.assertEqual(len(bound), len(set(bound)))

    def test_imports_are_of_the_package_and_run_in_no_ring(self):
        drawn = {}
        for path in sources():
            name = "lawwords." + path.stem
            drawn[name] = []
            for node in nodes(path):
                if isinstance(node, ast.ImportFrom):
                    self.assertEqual(node.level, 0)
                    self.assertTrue((PACKAGE / (node.module.split(".", 1)[1] + ".py")).is_file())
                    self.assertTrue(all(one.name != "*" and one.asname is None for one in node.names))
                    drawn[name].append(node.module)
        self.assertEqual(drawn["lawwords.__init__"], [])
        while drawn:
            free = [name for name, others in drawn.items() if not set(others) & set(drawn)]
            self.assertTrue(free, drawn)
            for name in free:
                drawn.pop(name)

    def test_names(self):
        for path in sources():
            top = ast.parse(path.read_text()).body
            drawn = [one.name for node in top if isinstance(node, ast.ImportFrom) for one in node.names]
            classes = [node.name for node in top if isinstance(node, ast.ClassDef)]
            for node in nodes(path):
                if isinstance(node, ast.arg):
                    self.assertNotIn(node.arg, dir(builtins) + drawn + classes)
                if isinstance(node, ast.Name) and isinstance(node.ctx, ast.Store):
                    self.assertNotIn(node.id, dir(builtins) + drawn + classes)
                if isinstance(node, ast.Name) and isinstance(node.ctx, ast.Load) and node.id in dir(builtins):
                    self.assertIn(node.id, OWN)
                if isinstance(node, (ast.Name, ast.FunctionDef)):
                    name = node.id if isinstance(node, ast.Name) else node.name
                    self.assertTrue(name == "__init__" or not name.startswith("_"), name)

    def test_methods_and_values(self):
        taken = set()
        for kind in (str, int, list, dict, set, bytes):
            taken |= set(dir(kind))
        own = [node.name for path in sources() for one in nodes(path) if isinstance(one, ast.ClassDef)
               for node in one.body if node.name != "__init__"]
        self.assertEqual(set(own) & taken, set())
        for path in sources():
            for node in nodes(path):
                if isinstance(node, ast.Call) and isinstance(node.func, ast.Attribute):
                    self.assertIn(node.func.attr, METHODS + own)
                if isinstance(node, ast.Attribute) and isinstance(node.ctx, ast.Store):
                    self.assertNotIn(node.attr, taken | set(own))


if __name__ == "__main__":
    unittest.main()
