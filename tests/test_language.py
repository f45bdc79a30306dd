"""Checks of the package's files that a look at their syntax can make: sizes, characters, imports, allowed words."""

import ast
import builtins
import pathlib
import re
import unittest

PACKAGE = pathlib.Path(__file__).resolve().parent.parent / "ticketwrap"
LIBRARY = {"heapq": ("heappush", "heappop", "heapify", "heapreplace", "heappushpop"),
           "math": ("gcd", "lcm", "isqrt", "comb", "perm", "factorial"),
           "itertools": ("product", "combinations", "permutations", "chain", "accumulate", "pairwise", "islice",
                         "zip_longest"),
           "collections": ("defaultdict",)}
BARRED_NODES = (ast.AsyncFunctionDef, ast.Await, ast.Global, ast.Import, ast.Div, ast.MatMult)
BUILTINS = set("""
    len range enumerate zip map min max sum abs sorted reversed int str bool bytes list tuple dict set isinstance ord
    repr any all divmod pow getattr hasattr setattr iter next super property classmethod staticmethod Exception
    ValueError TypeError KeyError IndexError LookupError ZeroDivisionError ArithmeticError OverflowError RuntimeError
    NotImplementedError AttributeError StopIteration NotImplemented""".split())
BARRED_WORDS = r"\b(typing|enum|Enum|ABC|namedtuple|abstractmethod)\b|dataclass|overload|contextmanager|_wall"


def files():
    return sorted(PACKAGE.rglob("*.py"))


def trees():
    return [(path.name, ast.parse(path.read_text())) for path in files()]


def strings(tree):
    return [node.value for node in ast.walk(tree) if isinstance(node, ast.Constant) and isinstance(node.value, str)]


class TestLanguage(unittest.TestCase):
    def test_only_python_files_with_lower_case_names(self):
        found = [path for path in PACKAGE.rglob("*") if path.is_file() and "__pycache__" not in path.parts]
        self.assertEqual(sorted(found), files())
        for path in found:
            self.assertRegex(path.name, r"^[a-z0-9_]+\.py$")

    def test_sizes_and_characters(self):
        for path in files():
            text = path.read_text()
            with self.subTest(path=path.name):
                self.assertTrue(re.fullmatch(r"[ -~\n]*", text))
                lines = text.split("\n")
                self.assertLessEqual(len(lines), 400)
                self.assertLessEqual(max(map(len, lines)), 120)
                self.assertIsNone(re.search(BARRED_WORDS, text))

    def test_functions_are_short_and_plainly_decorated(self):
        for name, tree in trees():
            for node in ast.walk(tree):
                if isinstance(node, ast.FunctionDef):
                    with self.subTest(file=name, function=node.name):
                        self.assertLessEqual(node.end_lineno - node.lineno + 1, 40)
                        self.assertIn([ast.unparse(word) for word in node.decorator_list],
                                      [[], ["property"], ["classmethod"], ["staticmethod"]])

    def test_imports(self):
        for name, tree in trees():
            for node in ast.walk(tree):
                if isinstance(node, ast.ImportFrom):
                    with self.subTest(file=name, module=node.module):
                        self.assertEqual((node.level, node.col_offset), (0, 0))
                        words = [alias.name for alias in node.names]
                        self.assertNotIn("*", words)
                        if not node.module.startswith("ticketwrap."):
                            self.assertTrue(set(words) <= set(LIBRARY[node.module]))

    def test_no_barred_statements_numbers_and_names(self):
        for name, tree in trees():
            for node in ast.walk(tree):
                with self.subTest(file=name, line=getattr(node, "lineno", 0)):
                    self.assertNotIsInstance(node, BARRED_NODES)
                    if isinstance(node, ast.Constant):
                        self.assertNotIsInstance(node.value, (float, complex))
                    if isinstance(node, ast.Name) and hasattr(builtins, node.id):
                        self.assertIn(node.id, BUILTINS)

    def test_strings(self):
        for name, tree in trees():
            for text in strings(tree):
                with self.subTest(file=name, text=text):
                    self.assertNotIn("%", text)
                    self.assertFalse(text.endswith(("._", ".__")))


if __name__ == "__main__":
    unittest.main()
