"""Point 1 and the form of the code: what can be read off the package's own files."""

import ast
import builtins
import pathlib
import re
import unittest

import guildvote

FOLDER = pathlib.Path(guildvote.__file__).parent
FILES = sorted(FOLDER.glob("*.py"))
MODULES = ["guildvote." + path.stem for path in FILES if path.stem != "__init__"]

BUILT_IN = set("""len range enumerate zip min max sum abs sorted reversed int str bool list tuple dict set frozenset
isinstance ord repr any all divmod Exception ValueError TypeError KeyError IndexError LookupError ZeroDivisionError
ArithmeticError OverflowError RuntimeError NotImplementedError AttributeError StopIteration""".split())

METHODS = set("""append clear copy count endswith extend find get index insert isalnum isalpha isdigit islower isspace
isupper items join keys ljust lower lstrip partition pop remove replace reverse rfind rjust rpartition rsplit rstrip
setdefault split splitlines startswith strip update upper values zfill bit_length""".split())

WORDS = """type typing typing_extensions enum Enum IntEnum StrEnum Flag IntFlag Generic Protocol ABC ABCMeta namedtuple
NamedTuple TypedDict TYPE_CHECKING abstractmethod""".split()

NODES = (
    ast.Module, ast.ImportFrom, ast.alias, ast.FunctionDef, ast.ClassDef, ast.arguments, ast.arg, ast.Pass,
    ast.Assign, ast.AugAssign, ast.If, ast.While, ast.For, ast.Return, ast.Break, ast.Continue, ast.Raise, ast.Expr,
    ast.Constant, ast.Name, ast.List, ast.Tuple, ast.Dict, ast.BinOp, ast.UnaryOp, ast.BoolOp, ast.Compare, ast.IfExp,
    ast.Call, ast.keyword, ast.Attribute, ast.Subscript, ast.Slice, ast.ListComp, ast.comprehension,
    ast.expr_context, ast.operator, ast.unaryop, ast.boolop, ast.cmpop,
)


class Form(unittest.TestCase):
    def each(self, *kinds):
        for path in FILES:
            for node in ast.walk(ast.parse(path.read_text())):
                if isinstance(node, kinds):
                    # What the case says where it fails behind this.
                    self.place = f"{path.name}, line {getattr(node, 'lineno', 0)}"
                    yield node

    def test_only_files_of_the_package_lie_in_it(self):
        names = [path.name for path in FOLDER.iterdir() if path.name != "__pycache__"]
        self.assertEqual(sorted(names), ["__init__.py", "ballots.py", "counting.py", "errors.py"])

    def test_only_the_packages_own_modules_are_drawn_from(self):
        for node in self.each(ast.Import, ast.ImportFrom):
            self.assertIsInstance(node, ast.ImportFrom, self.place)
            self.assertEqual(node.level, 0, self.place)
            self.assertIn(node.module, MODULES, self.place)
            self.assertNotIn("*", [name.name for name in node.names], self.place)

    def test_only_the_listed_forms(self):
        for node in self.each(ast.AST):
            self.assertIsInstance(node, NODES, self.place)
            self.assertNotIsInstance(node, ast.Div, self.place)

    def test_only_whole_numbers_texts_and_their_like(self):
        for node in self.each(ast.Constant):
            self.assertIn(node.value.__class__, [int, str, bool, None.__class__], self.place)

    def test_only_the_listed_names_of_pythons_own(self):
        for node in self.each(ast.Name):
            if hasattr(builtins, node.id):
                self.assertIn(node.id, BUILT_IN, self.place)
                self.assertIsInstance(node.ctx, ast.Load, self.place)

    def test_only_the_listed_methods(self):
        for node in self.each(ast.Attribute):
            self.assertIn(node.attr, METHODS, self.place)

    def test_plain_names(self):
        for node in self.each(ast.Name, ast.arg, ast.FunctionDef, ast.ClassDef):
            name = getattr(node, "id", None) or getattr(node, "arg", None) or node.name
            self.assertRegex(name, r"\A[A-Za-z][A-Za-z0-9_]*\Z", self.place)

    def test_no_parameter_is_called_like_pythons_own(self):
        for node in self.each(ast.arg):
            self.assertFalse(hasattr(builtins, node.arg), self.place)

    def test_plain_parameters(self):
        for node in self.each(ast.arguments):
            special = [node.vararg, node.kwarg, node.kwonlyargs, node.posonlyargs]
            self.assertEqual(special, [None, None, [], []], self.place)

    def test_sizes(self):
        for node in self.each(ast.FunctionDef):
            self.assertLessEqual(node.end_lineno - node.lineno, 39, self.place)
        for path in FILES:
            lines = path.read_text().split("\n")
            self.assertLessEqual(len(lines), 400, path.name)
            self.assertLessEqual(max(len(line) for line in lines), 120, path.name)

    def test_signs_and_words(self):
        for path in FILES:
            text = path.read_bytes().decode("ascii")
            self.assertRegex(text, r"\A[ -~\n]*\Z", path.name)
            self.assertEqual([word for word in WORDS if re.search(rf"\b{word}\b", text)], [], path.name)
            self.assertIsNone(re.search("dataclass|overload|contextmanager", text), path.name)


if __name__ == "__main__":
    unittest.main()
