"""What can be seen of the code's form: point 1 (no clock, chance or files) and the sizes and names it keeps to."""

import ast
import builtins
import pathlib
import re
import unittest

PACKAGE = pathlib.Path(__file__).resolve().parent.parent / "waysaid"
FILES = sorted(path for path in PACKAGE.rglob("*") if path.is_file() and path.suffix != ".pyc")
BUILT_IN = """len range enumerate zip min max sum abs sorted reversed int str bool list tuple dict set frozenset isinstance
ord repr any all divmod Exception ValueError TypeError KeyError IndexError LookupError ZeroDivisionError ArithmeticError
OverflowError RuntimeError NotImplementedError AttributeError StopIteration""".split()
WORDS = """type typing typing_extensions enum Enum IntEnum StrEnum Flag IntFlag Generic Protocol ABC ABCMeta namedtuple
NamedTuple TypedDict TYPE_CHECKING abstractmethod""".split()


def each_text():
    return [path.read_text(encoding="utf-8") for path in FILES]


def each_node(*kinds):
    nodes = [node for text in each_text() for node in ast.walk(ast.parse(text))]
    return [node for node in nodes if isinstance(node, kinds)]


class Form(unittest.TestCase):
    def test_files(self):
        names = [path.name for path in FILES]
        self.assertIn("__init__.py", names)
        for name in names:
            self.assertRegex(name, r"\A([a-z][a-z0-9_]*|__init__)\.py\Z")

    def test_signs_and_sizes(self):
        for text in each_text():
            self.assertRegex(text, r"\A[ -~\n]*\Z")
            rows = text.split("\n")
            self.assertLessEqual(len(rows), 401)
            self.assertLessEqual(max(len(row) for row in rows), 120)

    def test_functions_are_short(self):
        for node in each_node(ast.FunctionDef):
            self.assertLessEqual(node.end_lineno - node.lineno + 1, 40, node.name)

    def test_only_the_package_itself_is_imported(self):
        for node in each_node(ast.Import, ast.ImportFrom):
            self.assertIsInstance(node, ast.ImportFrom)
            self.assertEqual(node.level, 0)
            self.assertTrue(node.module.startswith("waysaid."), node.module)
            self.assertNotIn("*", [name.name for name in node.names])

    def test_names_of_pythons_own(self):
        for node in each_node(ast.Name):
            if hasattr(builtins, node.id):
                self.assertIsInstance(node.ctx, ast.Load)
                self.assertIn(node.id, BUILT_IN)

    def test_words_that_stand_nowhere(self):
        for text in each_text():
            for word in WORDS:
                self.assertIsNone(re.search(rf"\b{word}\b", text), word)


if __name__ == "__main__":
    unittest.main()
