"""What can be seen of the code's form: point 1 (no clock, chance or files) and the sizes and names it keeps to."""

import ast
import builtins
import pathlib
import re
import unittest

PACKAGE = pathlib.Path(__file__).resolve().parent.parent / "waysaid"
FILES = sorted(path for path in PACKAGE.rglob("*") if path.is_file() and path.suffix != ".pyc")
BUILT_IN = """len range enumerate zip min max sum abs sorted reversed int str bool list tuple dict set frozenset isinstance
ord repr any all divmod Exception ValueError TypeError KeyError IndexError LookupError ZeroDivisionError ArithmeticError
OverflowError RuntimeError NotImplementedError AttributeError StopIteration""".split()
WORDS = """type typing typing_extensions enum Enum IntEnum StrEnum Flag IntFlag Generic Protocol ABC ABCMeta namedtuple
NamedTuple TypedDict TYPE_CHECKING abstractmethod""".split()

OUTSIDE = (ast.With, ast.Match, ast.Delete, ast.Global, ast.Nonlocal, ast.Assert, ast.Yield, ast.YieldFrom, ast.Await,
           ast.AsyncFor, ast.AsyncWith, ast.AsyncFunctionDef, ast.GeneratorExp, ast.SetComp, ast.DictComp,
           ast.NamedExpr, ast.Starred, ast.Div, ast.MatMult, ast.Set)
METHODS = """append clear copy count endswith extend find get index insert items join keys pop remove replace reverse
setdefault split startswith strip update values""".split()


def each_text():
    return [path.read_text(encoding="utf-8") for path in FILES]


def each_node(*kinds):
    nodes = [node for text in each_text() for node in ast.walk(ast.parse(text))]
    return [node for node in nodes if isinstance(node, kinds)]


class Form(unittest.TestCase):
    def test_files(self):
        names = [path.name for path in FILES]
        self.assertIn("__init__.py", names)
        for name in names:
            self.assertRegex(name, r"\A([a-z][a-z0-9_]*|__init__)\.py\Z")

    def test_signs_and_sizes(self):
        for text in each_text():
            self.assertRegex(text, r"\A[ -~\n]*\Z")
            rows = text.split("\n")
            self.assertLessEqual(len(rows), 401)
            self.assertLessEqual(max(len(row) for row in rows), 120)

    def test_functions_are_short(self):
        for node in each_node(ast.FunctionDef):
            self.assertLessEqual(node.end_lineno - node.lineno + 1, 40, node.name)

    def test_only_the_package_itself_is_imported(self):
        for node in each_node(ast.Import, ast.ImportFrom):
            self.assertIsInstance(node, ast.ImportFrom)
            self.assertEqual(node.level, 0)
            self.assertTrue(node.module.startswith("waysaid."), node.module)
            self.assertNotIn("*", [name.name for name in node.names])

    def test_names_of_pythons_own(self):
        for node in each_node(ast.Name):
            if hasattr(builtins, node.id):
                self.assertIsInstance(node.ctx, ast.Load)
                self.assertIn(node.id, BUILT_IN)

    def test_names_given(self):
        given = [node.id for node in each_node(ast.Name) if isinstance(node.ctx, ast.Store)]
        given += [node.arg for node in each_node(ast.arg)]
        given += [node.name for node in each_node(ast.FunctionDef, ast.ClassDef)]
        for name in given:
            self.assertRegex(name, r"\A[A-Za-z][A-Za-z0-9_]*\Z")
            self.assertFalse(hasattr(builtins, name), name)

    def test_locals_are_not_called_like_an_import(self):
        for text in each_text():
            tree = ast.parse(text)
            drawn = [name.name for node in ast.walk(tree) if isinstance(node, ast.ImportFrom) for name in node.names]
            for node in ast.walk(tree):
                if isinstance(node, ast.Name) and isinstance(node.ctx, ast.Store):
                    self.assertNotIn(node.id, drawn)
                if isinstance(node, ast.arg):
                    self.assertNotIn(node.arg, drawn)

    def test_statements_and_values_outside_the_language(self):
        self.assertEqual([ast.dump(node) for node in each_node(*OUTSIDE)], [])
        for node in each_node(ast.For, ast.While):
            self.assertEqual(node.orelse, [])
        for node in each_node(ast.Assign):
            self.assertEqual(len(node.targets), 1)
        for node in each_node(ast.ListComp):
            self.assertEqual(len(node.generators), 1)
            self.assertLessEqual(len(node.generators[0].ifs), 1)
        for node in each_node(ast.FunctionDef, ast.ClassDef):
            self.assertEqual(node.decorator_list, [])
        for node in each_node(ast.Constant):
            self.assertIn(type(node.value), (int, str, bool, type(None)))

    def test_is_stands_beside_none_true_and_false_alone(self):
        for node in each_node(ast.Compare):
            for sign, right in zip(node.ops, node.comparators):
                if isinstance(sign, (ast.Is, ast.IsNot)):
                    self.assertIsInstance(right, ast.Constant)
                    self.assertIn(right.value, (None, True, False))

    def test_methods(self):
        for node in each_node(ast.Attribute):
            self.assertIn(node.attr, METHODS)

    def test_nothing_calls_itself(self):
        # Nothing may hang on how deep a recursion goes; a call through other functions is not seen here.
        for node in each_node(ast.FunctionDef):
            called = [inner.func.id for inner in ast.walk(node)
                      if isinstance(inner, ast.Call) and isinstance(inner.func, ast.Name)]
            self.assertNotIn(node.name, called)

    def test_words_that_stand_nowhere(self):
        for text in each_text():
            for word in WORDS:
                self.assertIsNone(re.search(rf"\b{word}\b", text), word)


if __name__ == "__main__":
    unittest.main()
