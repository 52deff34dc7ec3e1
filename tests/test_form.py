"""The form of the package: small files of plain text, and a small part of the language."""

import ast
import builtins
import pathlib
import re
import unittest

PACKAGE = pathlib.Path(__file__).resolve().parent.parent / "leastsums"

INTERFACE = {
    "minimal_solutions": ["coefficients"],
    "evaluate": ["coefficients", "x"],
    "decompose": ["coefficients", "x"],
    "count_decompositions": ["coefficients", "x"],
    "smallest_with": ["index", "coefficients"],
    "contained_solutions": ["coefficients", "x"],
}

OWN_NAMES_OF_PYTHON = set("""
    len range enumerate zip min max sum abs sorted reversed int str bool list tuple dict set frozenset isinstance
    ord repr any all divmod Exception ValueError TypeError KeyError IndexError LookupError ZeroDivisionError
    ArithmeticError OverflowError RuntimeError NotImplementedError AttributeError StopIteration
    """.split())

UNUSED_NAMES = set("""
    register mro elements open input attrgetter breakpoint builtins compile copyright credits delattr dir eval exec
    exit gc getattr globals hasattr help id importlib license locals methodcaller os quit setattr super type vars sys
    """.split())

UNUSED_WORDS = re.compile(
    r"\b(type|typing|typing_extensions|enum|Enum|IntEnum|StrEnum|Flag|IntFlag|Generic|Protocol|ABC|ABCMeta"
    r"|namedtuple|NamedTuple|TypedDict|TYPE_CHECKING|abstractmethod)\b|dataclass|overload|contextmanager")

STATEMENTS = (
    ast.Assign, ast.AugAssign, ast.If, ast.While, ast.For, ast.Return, ast.Break, ast.Continue, ast.Pass,
    ast.Raise, ast.Try, ast.Expr, ast.FunctionDef, ast.ClassDef, ast.ImportFrom)

EXPRESSIONS_LEFT_OUT = (
    ast.SetComp, ast.DictComp, ast.GeneratorExp, ast.NamedExpr, ast.Starred, ast.Await, ast.Yield, ast.YieldFrom)


def package_files():
    return sorted(path for path in PACKAGE.rglob("*") if "__pycache__" not in path.parts)


def each_node():
    for path in package_files():
        for node in ast.walk(ast.parse(path.read_text(encoding="utf-8"))):
            yield path.name, node


class Files(unittest.TestCase):
    def test_nothing_but_plain_python_files(self):
        self.assertIn(PACKAGE / "__init__.py", package_files())
        for path in package_files():
            self.assertTrue(path.is_file(), path)
            self.assertRegex(path.name, r"^(__init__|[a-z][a-z0-9_]*)\.py$")
            self.assertFalse(path.name.startswith("test"), path)

    def test_signs_and_sizes(self):
        for path in package_files():
            text = path.read_text(encoding="utf-8")
            rows = text.split("\n")
            self.assertRegex(text, r"\A[ -~\n]*\Z", path)
            self.assertLessEqual(len(rows), 399, path)
            self.assertLessEqual(max(len(row) for row in rows), 120, path)

    def test_words_that_stand_nowhere(self):
        for path in package_files():
            self.assertIsNone(UNUSED_WORDS.search(path.read_text(encoding="utf-8")), path)


class Language(unittest.TestCase):
    def test_statements_and_expressions(self):
        for file, node in each_node():
            if isinstance(node, ast.stmt):
                self.assertIsInstance(node, STATEMENTS, file)
            self.assertNotIsInstance(node, EXPRESSIONS_LEFT_OUT, file)
            self.assertNotIsInstance(node, (ast.Div, ast.MatMult), file)
            if isinstance(node, ast.Constant):
                self.assertIn(type(node.value), (int, str, bool, type(None)), file)
            if isinstance(node, ast.Assign):
                self.assertEqual(len(node.targets), 1, file)
            if isinstance(node, (ast.For, ast.While)):
                self.assertEqual(node.orelse, [], file)

    def test_functions_are_plain_and_short(self):
        for file, node in each_node():
            if isinstance(node, ast.FunctionDef):
                self.assertLessEqual(node.end_lineno - node.lineno + 1, 40, node.name)
                self.assertEqual(node.decorator_list, [], node.name)
                arguments = node.args
                self.assertIsNone(arguments.vararg or arguments.kwarg, node.name)
                self.assertEqual(arguments.kwonlyargs + arguments.posonlyargs, [], node.name)

    def test_imports_are_of_the_package_alone(self):
        for file, node in each_node():
            if isinstance(node, ast.ImportFrom):
                self.assertEqual(node.level, 0, file)
                self.assertRegex(node.module, r"^leastsums\.", file)

    def test_names(self):
        for file, node in each_node():
            if isinstance(node, ast.Name):
                self.check_name(file, node.id)
                if hasattr(builtins, node.id):
                    self.assertIn(node.id, OWN_NAMES_OF_PYTHON, file)
                    self.assertIsInstance(node.ctx, ast.Load, file)
            if isinstance(node, ast.FunctionDef):
                self.check_name(file, node.name)
            if isinstance(node, ast.arg):
                self.check_name(file, node.arg)
                self.assertFalse(hasattr(builtins, node.arg), file)

    def check_name(self, file, name):
        self.assertRegex(name, r"^[A-Za-z][A-Za-z0-9_]*$", file)
        self.assertNotIn(name, UNUSED_NAMES, file)

    def test_the_interface_stands_in_its_file(self):
        tree = ast.parse((PACKAGE / "solutions.py").read_text(encoding="utf-8"))
        defined = {}
        for node in tree.body:
            if isinstance(node, ast.FunctionDef):
                defined[node.name] = node.args
        for name, parameters in INTERFACE.items():
            self.assertEqual([argument.arg for argument in defined[name].args], parameters)
            self.assertEqual(defined[name].defaults, [])


if __name__ == "__main__":
    unittest.main()
