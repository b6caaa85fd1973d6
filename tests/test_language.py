"""The package keeps to the part of Python that it is to be written in, as far as its text can tell."""

import ast
import pathlib
import re
import unittest

PACKAGE = pathlib.Path(__file__).resolve().parent.parent / "makeups"
FILES = sorted(PACKAGE.glob("*.py"))

WORDS = """type typing typing_extensions enum Enum IntEnum StrEnum Flag IntFlag Generic Protocol ABC ABCMeta namedtuple
    NamedTuple TypedDict TYPE_CHECKING abstractmethod""".split()
BUILT_IN = """len range enumerate zip min max sum abs sorted reversed int str bool list tuple dict set frozenset isinstance
    ord repr any all divmod Exception ValueError TypeError KeyError IndexError LookupError ZeroDivisionError
    ArithmeticError OverflowError RuntimeError NotImplementedError StopIteration""".split()
METHODS = """append clear copy count endswith extend find get index insert isalnum isalpha isdigit islower isspace isupper
    items join keys ljust lower lstrip partition pop remove replace reverse rfind rjust rpartition rsplit rstrip
    setdefault split splitlines startswith strip update upper values zfill bit_length""".split()
NODES = """Module FunctionDef arguments arg ClassDef Assign AugAssign If While For Return Break Continue Pass Raise Try
    ExceptHandler Expr Constant Name Load Store Attribute Subscript Slice Call keyword BinOp UnaryOp BoolOp Compare IfExp
    List Tuple Dict ListComp comprehension Lambda ImportFrom alias Add Sub Mult FloorDiv Mod Pow USub Not And Or Eq NotEq
    Lt LtE Gt GtE Is IsNot In NotIn""".split()

SOURCES = [(path.name, path.read_text(encoding="utf-8")) for path in FILES]
TREES = [(name, text, ast.parse(text)) for name, text in SOURCES]


def nodes_of(tree, *kinds):
    return [node for node in ast.walk(tree) if isinstance(node, kinds)]


class Language(unittest.TestCase):
    def test_nothing_else_lies_in_the_package(self):
        other = [path.name for path in PACKAGE.iterdir() if path not in FILES and path.name != "__pycache__"]
        self.assertEqual(other, [])
        self.assertIn("__init__.py", [path.name for path in FILES])

    def test_signs_and_lengths(self):
        for name, text, tree in TREES:
            with self.subTest(file=name):
                lines = text.split("\n")
                self.assertLessEqual(len(lines), 400)
                self.assertTrue(all(len(line) <= 120 for line in lines))
                self.assertTrue(all(c == "\n" or " " <= c <= "~" for c in text))
                for node in nodes_of(tree, ast.FunctionDef):
                    self.assertLessEqual(node.end_lineno - node.lineno + 1, 40, node.name)

    def test_words(self):
        for name, text, tree in TREES:
            with self.subTest(file=name):
                self.assertEqual([word for word in re.findall(r"\w+", text) if word in WORDS], [])
                self.assertIsNone(re.search("dataclass|overload|contextmanager", text))

    def test_forms(self):
        for name, text, tree in TREES:
            with self.subTest(file=name):
                self.assertEqual([type(n).__name__ for n in ast.walk(tree) if type(n).__name__ not in NODES], [])
                for node in nodes_of(tree, ast.FunctionDef, ast.ClassDef):
                    self.assertEqual(node.decorator_list, [])
                for node in nodes_of(tree, ast.FunctionDef):
                    self.assertIsNone(node.args.vararg or node.args.kwarg or node.returns)
                    self.assertEqual(node.args.kwonlyargs, [])
                for node in nodes_of(tree, ast.Assign):
                    self.assertEqual(len(node.targets), 1)
                for node in nodes_of(tree, ast.For, ast.While):
                    self.assertEqual(node.orelse, [])
                for node in nodes_of(tree, ast.ListComp):
                    self.assertTrue(len(node.generators) == 1 and len(node.generators[0].ifs) <= 1)
                for node in nodes_of(tree, ast.Constant):
                    self.assertIn(type(node.value), (int, str, bool, type(None)))

    def test_imports(self):
        for name, text, tree in TREES:
            with self.subTest(file=name):
                for node in nodes_of(tree, ast.ImportFrom):
                    self.assertIn(node, tree.body)
                    self.assertEqual(node.level, 0)
                    self.assertIn(node.module, ["makeups." + other.stem for other in FILES])
                    defined = ast.parse((PACKAGE / (node.module.split(".")[1] + ".py")).read_text(encoding="utf-8"))
                    names = [n.name for n in defined.body if isinstance(n, (ast.FunctionDef, ast.ClassDef))]
                    names += [n.targets[0].id for n in defined.body if isinstance(n, ast.Assign)]
                    for alias in node.names:
                        self.assertIn(alias.name, names)
                        self.assertIsNone(alias.asname)
                        self.assertGreater(len(re.findall(rf"\b{alias.name}\b", text)), 1, alias.name)

    def test_names(self):
        for name, text, tree in TREES:
            with self.subTest(file=name):
                known = set(BUILT_IN)
                for node in nodes_of(tree, ast.FunctionDef, ast.ClassDef):
                    known.add(node.name)
                    self.assertTrue(node.name == "__init__" or not node.name.startswith("_"))
                known |= {alias.name for node in nodes_of(tree, ast.ImportFrom) for alias in node.names}
                known |= {node.arg for node in nodes_of(tree, ast.arg)}
                known |= {node.name for node in nodes_of(tree, ast.ExceptHandler)}
                stored = {node.id for node in nodes_of(tree, ast.Name) if isinstance(node.ctx, ast.Store)}
                self.assertEqual(sorted(stored & set(BUILT_IN)), [])
                self.assertEqual([name for name in sorted(stored) if name.startswith("_")], [])
                read = {node.id for node in nodes_of(tree, ast.Name)}
                self.assertEqual(sorted(read - known - stored), [])

    def test_methods(self):
        own = {node.name for name, text, tree in TREES for cls in nodes_of(tree, ast.ClassDef)
               for node in nodes_of(cls, ast.FunctionDef)}
        for name, text, tree in TREES:
            with self.subTest(file=name):
                for node in nodes_of(tree, ast.Call):
                    if isinstance(node.func, ast.Attribute):
                        self.assertIn(node.func.attr, own | set(METHODS))


if __name__ == "__main__":
    unittest.main()
