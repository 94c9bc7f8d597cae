"""The rules of the language that can be seen at a glance; the others are for the reader."""

import ast
import builtins
import pathlib
import re
import unittest

FOLDER = pathlib.Path(__file__).resolve().parent.parent / "datedworks"
FILES = sorted(FOLDER.glob("*.py"))

OWN_NAMES = """len range enumerate zip min max sum abs sorted reversed int str bool list tuple dict set frozenset
isinstance ord repr any all divmod Exception ValueError TypeError KeyError IndexError LookupError ZeroDivisionError
ArithmeticError OverflowError RuntimeError NotImplementedError AttributeError StopIteration""".split()
METHODS = """append clear copy count endswith extend find get index insert isalnum isalpha isdigit islower isspace
isupper items join keys ljust lower lstrip partition pop remove replace reverse rfind rjust rpartition rsplit rstrip
setdefault split splitlines startswith strip update upper values zfill bit_length""".split()
WORDS = """type typing typing_extensions enum Enum IntEnum StrEnum Flag IntFlag Generic Protocol ABC ABCMeta
namedtuple NamedTuple TypedDict TYPE_CHECKING abstractmethod""".split()
NODES = """Module Expr Constant Name Load Store ImportFrom alias FunctionDef arguments arg ClassDef Return Assign If
While For Break Continue Pass Raise Try ExceptHandler Call Attribute Subscript Slice BinOp Add Sub Mult FloorDiv Mod
BoolOp And Or UnaryOp Not USub Compare Eq NotEq Lt LtE Gt GtE Is IsNot In NotIn IfExp ListComp comprehension List
Tuple Dict Lambda JoinedStr FormattedValue keyword AugAssign""".split()


def nodes_of(path):
    return list(ast.walk(ast.parse(path.read_text("ascii"))))


class Language(unittest.TestCase):
    def test_files(self):
        for path in FOLDER.iterdir():
            if path.name != "__pycache__":
                self.assertRegex(path.name, r"^([a-z][a-z0-9_]*|__init__|__main__)\.py$")
        self.assertIn(FOLDER / "__init__.py", FILES)
        self.assertIn(FOLDER / "days.py", FILES)

    def test_signs_and_sizes(self):
        for path in FILES:
            lines = path.read_text("ascii").split("\n")
            self.assertLessEqual(len(lines), 400, path)
            for line in lines:
                self.assertRegex(line, r"^[ -~]{0,120}$", path)

    def test_words_that_stand_nowhere(self):
        for path in FILES:
            for word in re.findall(r"\w+", path.read_text("ascii")):
                self.assertNotIn(word, WORDS, path)

    def test_forms(self):
        for path in FILES:
            for node in nodes_of(path):
                self.assertIn(node.__class__.__name__, NODES, (path, getattr(node, "lineno", 0)))

    def test_functions(self):
        for path in FILES:
            for node in nodes_of(path):
                if isinstance(node, ast.FunctionDef):
                    self.assertLessEqual(node.end_lineno - node.lineno, 39, (path, node.name))
                    self.assertEqual(node.decorator_list, [], (path, node.name))

    def test_imports(self):
        for path in FILES:
            for node in nodes_of(path):
                if isinstance(node, ast.ImportFrom):
                    self.assertEqual(node.level, 0, path)
                    self.assertRegex(node.module, r"^datedworks\.", path)

    def test_names(self):
        for path in FILES:
            for node in nodes_of(path):
                if isinstance(node, ast.Name):
                    self.assertFalse(node.id.startswith("_"), (path, node.id))
                    if hasattr(builtins, node.id):
                        self.assertIn(node.id, OWN_NAMES, path)
                        self.assertIsInstance(node.ctx, ast.Load, (path, node.id))
                if isinstance(node, ast.arg):
                    self.assertFalse(hasattr(builtins, node.arg), (path, node.arg))

    def test_no_name_stands_for_two_things(self):
        for path in FILES:
            nodes = nodes_of(path)
            taken = [alias.asname or alias.name for node in nodes if isinstance(node, ast.ImportFrom)
                     for alias in node.names]
            taken += [node.name for node in nodes if isinstance(node, ast.ClassDef)]
            given = [node.id for node in nodes if isinstance(node, ast.Name) and isinstance(node.ctx, ast.Store)]
            given += [node.arg for node in nodes if isinstance(node, ast.arg)]
            self.assertEqual(sorted(set(taken) & set(given)), [], path)
            top = [node.name for node in nodes[0].body if isinstance(node, ast.FunctionDef)]
            top += [target.id for node in nodes[0].body if isinstance(node, ast.Assign) for target in node.targets]
            self.assertEqual(len(taken + top), len(set(taken + top)), path)

    def test_methods(self):
        own = []
        for path in FILES:
            own.extend(node.name for node in nodes_of(path) if isinstance(node, ast.FunctionDef))
        for path in FILES:
            for node in nodes_of(path):
                if isinstance(node, ast.Call) and isinstance(node.func, ast.Attribute):
                    self.assertIn(node.func.attr, METHODS + own, path)


if __name__ == "__main__":
    unittest.main()
