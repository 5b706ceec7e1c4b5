"""That the package keeps to the rules of ../shared/LANGUAGE.md that can be read off its files."""

import ast
import builtins
import pathlib
import re
import unittest

PACKAGE = pathlib.Path(__file__).resolve().parent.parent / "foldgrowth"

# L8, without what the later rules take out again.
OWN_NAMES = set("""
len range enumerate zip min max sum abs sorted reversed int str bool list tuple dict set frozenset isinstance ord repr
any all divmod Exception ValueError TypeError KeyError IndexError LookupError ZeroDivisionError ArithmeticError
OverflowError RuntimeError NotImplementedError AttributeError StopIteration
""".split())

# L25.
OWN_METHODS = set("""
append clear copy count endswith extend find get index insert isalnum isalpha isdigit islower isspace isupper items
join keys ljust lower lstrip partition pop remove replace reverse rfind rjust rpartition rsplit rstrip setdefault
split splitlines startswith strip update upper values zfill bit_length
""".split())

# L17, the last list.
WORDS = re.compile(
    r"\b(type|typing|typing_extensions|enum|Enum|IntEnum|StrEnum|Flag|IntFlag|Generic|Protocol|ABC|ABCMeta|namedtuple"
    r"|NamedTuple|TypedDict|TYPE_CHECKING|abstractmethod)\b|dataclass|overload|contextmanager")

# L6 and L7.
NODES = """
Module Import ImportFrom alias FunctionDef Lambda ClassDef arguments arg keyword Assign AugAssign If While For Return
Break Continue Pass Raise Try ExceptHandler Expr BinOp UnaryOp BoolOp Compare IfExp Call Attribute Subscript Slice
ListComp comprehension JoinedStr FormattedValue Constant Name List Tuple Dict Set Load Store Add Sub Mult FloorDiv Mod
Pow BitAnd BitOr BitXor LShift RShift Invert USub UAdd Not And Or Eq NotEq Lt LtE Gt GtE In NotIn Is IsNot
""".split()
ALLOWED = tuple(getattr(ast, name) for name in NODES)


def files():
    return sorted(PACKAGE.glob("**/*.py"))


def nodes(kind):
    for path in files():
        for node in ast.walk(ast.parse(path.read_text())):
            if isinstance(node, kind):
                yield path.name, node


class Language(unittest.TestCase):
    def test_files(self):
        self.assertTrue((PACKAGE / "__init__.py").is_file())
        for path in PACKAGE.iterdir():
            if path.name != "__pycache__":
                self.assertRegex(path.name, r"^[a-z0-9_]+\.py$")
                self.assertNotIn(path.stem, dir(builtins))

    def test_signs_and_sizes(self):
        for path in files():
            rows = path.read_bytes().decode("ascii").split("\n")
            self.assertLess(len(rows), 400, path.name)
            for row in rows:
                self.assertLessEqual(len(row), 120, path.name)
                self.assertRegex(row, r"^[ -~]*$")
                self.assertIsNone(WORDS.search(row), row)

    def test_forms(self):
        for name, node in nodes(ast.AST):
            self.assertIsInstance(node, ALLOWED, f"{name} {getattr(node, 'lineno', '')}")

    def test_functions(self):
        for name, node in nodes(ast.FunctionDef):
            self.assertLessEqual(node.end_lineno - node.lineno + 1, 40, f"{name} {node.name}")
            self.assertEqual(node.decorator_list, [])
            self.assertIsNone(node.args.vararg or node.args.kwarg)
            self.assertEqual(node.args.kwonlyargs + node.args.posonlyargs, [])
            for parameter in node.args.args:
                self.assertNotIn(parameter.arg, dir(builtins), f"{name} {node.name}")

    def test_imports(self):
        for name, node in nodes((ast.Import, ast.ImportFrom)):
            self.assertIsInstance(node, ast.ImportFrom, name)
            self.assertEqual(node.level, 0, name)
            self.assertRegex(node.module, r"^foldgrowth\.[a-z0-9_]+$")
            defined = ast.parse((PACKAGE / f"{node.module.split('.')[1]}.py").read_text()).body
            tops = [top.name for top in defined if isinstance(top, (ast.FunctionDef, ast.ClassDef))]
            tops += [top.targets[0].id for top in defined if isinstance(top, ast.Assign)]
            for drawn in node.names:
                self.assertIsNone(drawn.asname)
                self.assertIn(drawn.name, tops)

    def test_names(self):
        for name, node in nodes(ast.Name):
            self.assertRegex(node.id, r"^[A-Za-z]", name)
            if node.id in dir(builtins):
                self.assertIn(node.id, OWN_NAMES, name)
                self.assertIsInstance(node.ctx, ast.Load, f"{name} {node.id}")

    def test_methods(self):
        kinds = (str, int, list, dict, set, bytes, tuple)
        for name, node in nodes(ast.Attribute):
            if any(hasattr(kind, node.attr) for kind in kinds):
                self.assertIn(node.attr, OWN_METHODS, name)

    def test_walked_at_once(self):
        # L23.
        takers = "list tuple dict sorted sum any all enumerate zip min max".split()
        walked = set()
        for name, node in nodes((ast.For, ast.comprehension)):
            walked.add((name, ast.dump(node.iter, include_attributes=True)))
        for name, node in nodes(ast.Call):
            if isinstance(node.func, ast.Name) and node.func.id in takers and node.args:
                walked.add((name, ast.dump(node.args[0], include_attributes=True)))
        for name, node in nodes(ast.Call):
            kept = isinstance(node.func, ast.Name) and node.func.id in ("range", "zip", "enumerate", "reversed")
            kept = kept or isinstance(node.func, ast.Attribute) and node.func.attr in ("items", "keys", "values")
            if kept:
                self.assertIn((name, ast.dump(node, include_attributes=True)), walked, f"{name} {node.lineno}")

    def test_exponents(self):
        # L27.
        for name, node in nodes(ast.BinOp):
            if isinstance(node.op, ast.Pow):
                self.assertIsInstance(node.right, ast.Constant, name)

    def test_assignments(self):
        for name, node in nodes(ast.Assign):
            self.assertEqual(len(node.targets), 1, name)
            self.assertIsInstance(node.targets[0], (ast.Name, ast.Attribute, ast.Subscript), name)

    def test_identity(self):
        for name, node in nodes(ast.Compare):
            for sign, right in zip(node.ops, node.comparators):
                if isinstance(sign, (ast.Is, ast.IsNot)):
                    self.assertIsInstance(right, ast.Constant, name)
                    self.assertIn(right.value, (None, True, False), name)

    def test_the_interface_stands_where_it_is_told(self):
        owners = [name for name, node in nodes(ast.FunctionDef) if node.name == "answers"]
        self.assertEqual(owners, ["pieces.py"])
        found = [node for name, node in nodes(ast.FunctionDef) if node.name == "answers"]
        self.assertEqual([parameter.arg for parameter in found[0].args.args], ["calls"])
        self.assertEqual(found[0].args.defaults, [])


if __name__ == "__main__":
    unittest.main()
