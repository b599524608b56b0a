"""The form of the package's own files: what can be seen of the language's rules in their syntax."""

import ast
import builtins
import pathlib
import re
import unittest

PACKAGE = pathlib.Path(__file__).resolve().parent.parent / "hoopgame"
FILES = sorted(path for path in PACKAGE.rglob("*") if "__pycache__" not in path.parts)

NODES = """
    Module Expr Constant ImportFrom alias FunctionDef ClassDef arguments arg Return Assign AugAssign
    If While For Break Continue Pass Raise Try ExceptHandler Name Attribute Subscript Slice Call keyword
    List Tuple Dict Set ListComp comprehension BinOp UnaryOp BoolOp Compare IfExp Lambda
    Add Sub Mult FloorDiv Mod Pow BitAnd BitOr BitXor LShift RShift Invert USub UAdd Not And Or
    Eq NotEq Lt LtE Gt GtE Is IsNot In NotIn Load Store
""".split()
OWN_NAMES = """
    len range enumerate zip min max sum abs sorted reversed int str bool list tuple dict set frozenset isinstance
    ord repr any all divmod Exception ValueError TypeError KeyError IndexError LookupError ZeroDivisionError
    ArithmeticError OverflowError RuntimeError NotImplementedError StopIteration
""".split()
WORDS = """
    type typing typing_extensions enum Enum IntEnum StrEnum Flag IntFlag Generic Protocol ABC ABCMeta namedtuple
    NamedTuple TypedDict TYPE_CHECKING abstractmethod
""".split()
METHODS = """
    append clear copy count endswith extend find get index insert isalnum isalpha isdigit islower isspace isupper
    items join keys ljust lower lstrip partition pop remove replace reverse rfind rjust rpartition rsplit rstrip
    setdefault split splitlines startswith strip update upper values zfill bit_length
""".split()


class Form(unittest.TestCase):
    def nodes(self):
        for path in FILES:
            for node in ast.walk(ast.parse(path.read_text())):
                yield path.name, node

    def nodes_of(self, *kinds):
        return [(name, node) for name, node in self.nodes() if isinstance(node, kinds)]

    def test_files(self):
        self.assertIn("referee.py", [path.name for path in FILES])
        for path in FILES:
            self.assertRegex(path.name, r"^[a-z0-9_]+\.py$")
            self.assertRegex(path.read_bytes().decode("ascii"), r"\A[\n -~]*\Z")
            lines = path.read_text().splitlines()
            self.assertLessEqual(len(lines), 400)
            self.assertLessEqual(max(len(line) for line in lines), 120)

    def test_words(self):
        for path in FILES:
            found = re.findall(r"\w+", path.read_text())
            self.assertEqual([word for word in found if word in WORDS], [])

    def test_nodes(self):
        self.assertEqual([(name, node) for name, node in self.nodes() if node.__class__.__name__ not in NODES], [])

    def test_functions(self):
        for name, node in self.nodes_of(ast.FunctionDef):
            self.assertLessEqual(node.end_lineno - node.lineno + 1, 40, (name, node.name))
            self.assertEqual(node.decorator_list, [])
            self.assertTrue(not node.name.startswith("_") or node.name == "__init__")

    def test_imports(self):
        for name, node in self.nodes_of(ast.ImportFrom):
            self.assertEqual(node.level, 0)
            self.assertTrue(node.module.startswith("hoopgame."), node.module)
            self.assertTrue(all(each.asname is None for each in node.names))

    def test_names(self):
        for name, node in self.nodes_of(ast.Name):
            self.assertFalse(node.id.startswith("_"))
            if hasattr(builtins, node.id):
                self.assertIn(node.id, OWN_NAMES)
                self.assertIsInstance(node.ctx, ast.Load)
        for name, node in self.nodes_of(ast.arg):
            self.assertFalse(hasattr(builtins, node.arg) or node.arg.startswith("_"))

    def test_methods(self):
        own = [node.name for name, node in self.nodes_of(ast.FunctionDef)]
        for name, node in self.nodes_of(ast.Call):
            if isinstance(node.func, ast.Attribute):
                self.assertIn(node.func.attr, METHODS + own)

    def test_numbers(self):
        for name, node in self.nodes_of(ast.Constant):
            self.assertIn(node.value.__class__, (int, str, bool, None.__class__))

    def test_is_beside_none_true_and_false_alone(self):
        for name, node in self.nodes_of(ast.Compare):
            if any(isinstance(op, (ast.Is, ast.IsNot)) for op in node.ops):
                constants = [side for side in node.comparators if isinstance(side, ast.Constant)]
                self.assertEqual([side.value in (None, True, False) for side in constants], [True], name)

    def test_the_top_of_a_file(self):
        for path in FILES:
            bound = []
            for node in ast.parse(path.read_text()).body:
                self.assertIsInstance(node, (ast.Expr, ast.ImportFrom, ast.FunctionDef, ast.ClassDef, ast.Assign))
                bound += [each.name for each in getattr(node, "names", [])]
                bound += [each.id for each in getattr(node, "targets", [])]
                bound += [node.name] if hasattr(node, "name") else []
            self.assertEqual(len(bound), len(set(bound)), path.name)

    def test_imports_are_from_the_file_that_defines_the_name(self):
        for name, node in self.nodes_of(ast.ImportFrom):
            tree = ast.parse((PACKAGE / (node.module.split(".", 1)[1] + ".py")).read_text())
            defined = [each.name for each in tree.body if isinstance(each, (ast.FunctionDef, ast.ClassDef))]
            defined += [target.id for each in tree.body if isinstance(each, ast.Assign) for target in each.targets]
            self.assertEqual([each.name for each in node.names if each.name not in defined], [])

    def test_no_local_is_called_like_a_name_of_its_files_top(self):
        for path in FILES:
            tree = ast.parse(path.read_text())
            top = [each.name for node in tree.body if isinstance(node, ast.ImportFrom) for each in node.names]
            top += [node.name for node in tree.body if isinstance(node, (ast.FunctionDef, ast.ClassDef))]
            for function in [node for node in ast.walk(tree) if isinstance(node, ast.FunctionDef)]:
                found = [node.arg for node in ast.walk(function) if isinstance(node, ast.arg)]
                found += [node.id for node in ast.walk(function)
                          if isinstance(node, ast.Name) and isinstance(node.ctx, ast.Store)]
                self.assertEqual(set(found) & set(top), set(), (path.name, function.name))

    def test_no_name_is_a_method_and_a_value(self):
        methods = [each.name for name, node in self.nodes_of(ast.ClassDef) for each in node.body
                   if isinstance(each, ast.FunctionDef)]
        values = [node.attr for name, node in self.nodes_of(ast.Attribute) if isinstance(node.ctx, ast.Store)]
        self.assertEqual(set(methods) & set(values), set())


if __name__ == "__main__":
    unittest.main()
