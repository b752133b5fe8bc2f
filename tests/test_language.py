"""The package keeps to the part of Python that it is written in, as far as a look at its files can tell."""

import ast
import re
import unittest
from pathlib import Path

PACKAGE = Path(__file__).resolve().parent.parent / "readysets"

STATEMENTS = (ast.Assign, ast.AugAssign, ast.If, ast.While, ast.For, ast.Return, ast.Break, ast.Continue, ast.Pass,
              ast.Raise, ast.Try, ast.Expr, ast.FunctionDef, ast.ClassDef, ast.ImportFrom)
NOT_USED = (ast.Div, ast.Set, ast.SetComp, ast.DictComp, ast.GeneratorExp, ast.NamedExpr, ast.Starred, ast.MatMult,
            ast.Await, ast.Yield, ast.YieldFrom)
OWN_NAMES = ("len range enumerate zip min max sum abs sorted reversed int str bool list tuple dict set isinstance ord "
             "repr any all divmod Exception ValueError TypeError KeyError IndexError LookupError ZeroDivisionError "
             "ArithmeticError OverflowError RuntimeError NotImplementedError AttributeError StopIteration").split()
METHODS = ("append clear copy count endswith extend find get index insert items join keys pop remove replace reverse "
           "setdefault split update values bit_length").split()
WORDS = re.compile(r"\b(type|typing|typing_extensions|enum|Enum|IntEnum|StrEnum|Flag|IntFlag|Generic|Protocol|ABC|"
                   r"ABCMeta|namedtuple|NamedTuple|TypedDict|TYPE_CHECKING|abstractmethod)\b"
                   r"|dataclass|overload|contextmanager")


def sources():
    return sorted(PACKAGE.glob("*.py"))


def trees():
    return [(path.name, ast.parse(path.read_text())) for path in sources()]


def nodes(kind):
    return [(name, node) for name, tree in trees() for node in ast.walk(tree) if isinstance(node, kind)]


def own_functions():
    return [node.name for name, node in nodes((ast.FunctionDef, ast.ClassDef))]


class Language(unittest.TestCase):
    def test_only_python_files_lie_in_the_package(self):
        names = [path.name for path in PACKAGE.iterdir() if path.name != "__pycache__"]
        self.assertIn("__init__.py", names)
        for name in names:
            self.assertRegex(name, r"^[a-z0-9_]+\.py$")

    def test_signs_and_sizes(self):
        for path in sources():
            text = path.read_bytes().decode("ascii")
            self.assertTrue(all(sign == "\n" or " " <= sign <= "~" for sign in text), path.name)
            self.assertLessEqual(len(text.splitlines()), 400, path.name)
            self.assertLessEqual(max(len(line) for line in text.splitlines()), 120, path.name)
            self.assertIsNone(WORDS.search(text), path.name)
        for name, node in nodes(ast.FunctionDef):
            self.assertLessEqual(node.end_lineno - node.lineno + 1, 40, (name, node.name))

    def test_statements_and_expressions(self):
        for name, node in nodes(ast.stmt):
            self.assertIsInstance(node, STATEMENTS, (name, node.lineno))
        self.assertEqual(nodes(NOT_USED), [])
        for name, node in nodes(ast.Assign):
            self.assertEqual(len(node.targets), 1, (name, node.lineno))
        for name, node in nodes((ast.For, ast.While)):
            self.assertEqual(node.orelse, [], (name, node.lineno))
        for name, node in nodes(ast.Constant):
            self.assertIn(type(node.value), (int, str, bool, type(None)), (name, node.lineno))

    def test_imports_are_from_the_packages_own_files(self):
        for name, node in nodes(ast.ImportFrom):
            self.assertEqual(node.level, 0, name)
            self.assertRegex(node.module, r"^readysets\.[a-z0-9_]+$")
            self.assertNotEqual(name, "__init__.py")

    def test_names(self):
        bound = [node.id for name, node in nodes(ast.Name) if isinstance(node.ctx, ast.Store)]
        bound += [node.arg for name, node in nodes(ast.arg)]
        for word in bound + own_functions():
            self.assertRegex(word, r"^([A-Za-z][A-Za-z0-9_]*|__init__)$")
            self.assertNotIn(word, dir(__builtins__) if not isinstance(__builtins__, dict) else __builtins__)
        imported = [alias.name for name, node in nodes(ast.ImportFrom) for alias in node.names]
        known = set(bound) | set(own_functions()) | set(imported) | set(OWN_NAMES)
        for name, node in nodes(ast.Name):
            self.assertIn(node.id, known, (name, node.lineno))

    def test_methods_that_are_called(self):
        for name, node in nodes(ast.Call):
            if isinstance(node.func, ast.Attribute):
                self.assertIn(node.func.attr, METHODS + own_functions(), (name, node.lineno))

    def test_functions_are_plain(self):
        for name, node in nodes(ast.FunctionDef):
            self.assertEqual(node.decorator_list, [], (name, node.name))
            plain = node.args.vararg is None and node.args.kwarg is None and not node.args.kwonlyargs
            self.assertTrue(plain and not node.args.posonlyargs, (name, node.name))


if __name__ == "__main__":
    unittest.main()
