"""What holds of every file of the package: points 1 and 2, and rules of the language that a tree shows."""

import ast
import doctest
import pathlib
import unittest

ROOT = pathlib.Path(__file__).resolve().parent.parent
PACKAGE = ROOT / "otherhow"
LIBRARY = {
    "heapq": {"heappush", "heappop", "heapify", "heapreplace", "heappushpop"},
    "math": {"gcd", "lcm", "isqrt", "comb", "perm", "factorial"},
    "itertools": {
        "product", "combinations", "permutations", "chain", "accumulate", "pairwise", "islice", "zip_longest"},
    "collections": {"defaultdict"},
}
FORBIDDEN = (ast.Import, ast.Global, ast.AsyncFunctionDef, ast.Await, ast.Div, ast.MatMult)
CALLED_NOWHERE = {
    "open", "input", "print", "eval", "exec", "compile", "globals", "locals", "vars", "id", "hash", "float", "round",
    "complex", "type", "filter", "object", "memoryview", "bytearray", "slice", "chr", "bin", "hex"}


def files():
    return sorted([path for path in PACKAGE.rglob("*") if "__pycache__" not in path.parts and path.is_file()])


def trees():
    return [(path, ast.parse(path.read_text())) for path in files()]


class FilesTest(unittest.TestCase):
    def test_only_python_files_with_plain_names(self):
        self.assertIn(PACKAGE / "__init__.py", files())
        for path in files():
            self.assertRegex(path.name, r"\A[a-z0-9_]+\.py\Z")
            self.assertNotRegex(path.name, r"\A(tests?|testing|test_.*|conftest)\.py\Z")

    def test_sizes_and_characters(self):
        for path in files():
            text = path.read_bytes().decode("ascii")
            self.assertTrue(all(c == "\n" or " " <= c <= "~" for c in text), path)
            lines = text.split("\n")
            self.assertLessEqual(len(lines) - 1, 399, path)
            self.assertLessEqual(max([len(line) for line in lines]), 120, path)

    def test_functions_are_small(self):
        for path, tree in trees():
            for node in ast.walk(tree):
                if isinstance(node, ast.FunctionDef):
                    self.assertLessEqual(node.end_lineno - node.lineno + 1, 40, f"{path} {node.name}")


class TreeTest(unittest.TestCase):
    def test_imports(self):
        for path, tree in trees():
            for node in ast.walk(tree):
                if isinstance(node, ast.ImportFrom):
                    self.assert_import(path, node)

    def assert_import(self, path, node):
        names = {alias.name for alias in node.names}
        self.assertEqual(node.level, 0, path)
        self.assertNotIn("*", names, path)
        if not node.module.startswith("otherhow."):
            self.assertIn(node.module, LIBRARY, path)
            self.assertLessEqual(names, LIBRARY[node.module], path)

    def test_no_floats_and_nothing_that_is_left_out(self):
        for path, tree in trees():
            for node in ast.walk(tree):
                self.assertNotIsInstance(node, FORBIDDEN, path)
                if isinstance(node, ast.Constant):
                    self.assertNotIsInstance(node.value, (float, complex), path)
                    self.assertNotIn("%", node.value if isinstance(node.value, str) else "", path)

    def test_no_call_reaches_outside(self):
        for path, tree in trees():
            for node in ast.walk(tree):
                if isinstance(node, ast.Name):
                    self.assertNotIn(node.id, CALLED_NOWHERE, path)


class ReadmeTest(unittest.TestCase):
    def test_examples(self):
        result = doctest.testfile(str(ROOT / "README.md"), module_relative=False)
        self.assertGreater(result.attempted, 0)
        self.assertEqual(result.failed, 0)


if __name__ == "__main__":
    unittest.main()
