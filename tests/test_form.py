"""Tests of the form of the package's files: what LANGUAGE.md asks for and a test can see at once."""

import ast
import builtins
import pathlib
import unittest

PACKAGE = pathlib.Path(__file__).resolve().parent.parent / "endlots"
FILES = sorted(path for path in PACKAGE.rglob("*") if path.is_file() and "__pycache__" not in path.parts)
LIBRARY = {
    "math": {"gcd", "lcm", "isqrt", "comb", "perm", "factorial"},
    "heapq": {"heappush", "heappop", "heapify", "heapreplace", "heappushpop"},
    "itertools": {
        "product", "combinations", "permutations", "chain", "accumulate", "pairwise", "islice", "zip_longest",
    },
    "collections": {"defaultdict"},
}


class TestForm(unittest.TestCase):
    def trees(self):
        return [(path, ast.parse(path.read_text(encoding="utf-8"))) for path in FILES]

    def test_files(self):
        self.assertIn(PACKAGE / "__init__.py", FILES)
        for path in FILES:
            self.assertEqual(path.suffix, ".py")
            self.assertEqual(path.name, path.name.lower())

    def test_size_and_signs(self):
        for path in FILES:
            lines = path.read_text(encoding="utf-8").split("\n")
            self.assertLessEqual(len(lines), 400, path)
            for at, line in enumerate(lines, 1):
                self.assertLessEqual(len(line), 120, f"{path}:{at}")
                self.assertTrue(all(" " <= sign <= "~" for sign in line), f"{path}:{at}")

    def test_functions_are_short_and_plain(self):
        for path, tree in self.trees():
            for node in ast.walk(tree):
                if isinstance(node, ast.FunctionDef):
                    self.assertLessEqual(node.end_lineno - node.lineno + 1, 40, f"{path}:{node.lineno}")
                    self.assertEqual(node.decorator_list, [])

    def test_imports(self):
        for path, tree in self.trees():
            for node in ast.walk(tree):
                self.assertNotIsInstance(node, ast.Import, path)
                if isinstance(node, ast.ImportFrom):
                    names = {alias.name for alias in node.names}
                    self.assertIn(node, tree.body)
                    self.assertTrue(all(alias.asname is None for alias in node.names))
                    if node.module.startswith("endlots."):
                        self.assertEqual(node.level, 0)
                        self.assert_defined(node.module, names)
                    else:
                        self.assertTrue(names <= LIBRARY[node.module], f"{path}: {names}")

    def assert_defined(self, module, names):
        path = PACKAGE.parent.joinpath(*module.split(".")).with_suffix(".py")
        defined = set()
        for node in ast.parse(path.read_text(encoding="utf-8")).body:
            if isinstance(node, (ast.FunctionDef, ast.ClassDef)):
                defined.add(node.name)
            if isinstance(node, ast.Assign):
                defined.update(target.id for target in node.targets)
        self.assertTrue(names <= defined, f"{module}: {names - defined}")

    def test_no_two_files_import_from_each_other(self):
        known = {}
        for path, tree in self.trees():
            names = [node.module for node in ast.walk(tree) if isinstance(node, ast.ImportFrom)]
            known[f"endlots.{path.stem}"] = [name for name in names if name.startswith("endlots.")]
        for name in known:
            reached, waiting = set(), list(known[name])
            while waiting:
                other = waiting.pop()
                if other not in reached:
                    reached.add(other)
                    waiting += known[other]
            self.assertNotIn(name, reached)

    def test_names(self):
        barred = set(dir(builtins)) | {"register", "mro", "elements", "law"}
        for path, tree in self.trees():
            bound = {alias.name for node in ast.walk(tree) if isinstance(node, ast.ImportFrom) for alias in node.names}
            bound |= {node.name for node in ast.walk(tree) if isinstance(node, ast.ClassDef)}
            for node in ast.walk(tree):
                if isinstance(node, ast.Name) and isinstance(node.ctx, ast.Store):
                    self.assertNotIn(node.id, barred | bound, f"{path}:{node.lineno}")
                if isinstance(node, ast.arg):
                    self.assertNotIn(node.arg, barred | bound, f"{path}:{node.lineno}")
                if isinstance(node, ast.FunctionDef):
                    self.assertNotIn(node.name, barred, f"{path}:{node.lineno}")

    def test_lists_where_an_operator_may_be_met(self):
        """No generator expressions, sets only where they are sorted or counted, and no sorting in place."""
        for path, tree in self.trees():
            sets = []
            for node in ast.walk(tree):
                self.assertNotIsInstance(node, (ast.GeneratorExp, ast.Yield, ast.YieldFrom, ast.Lambda), path)
                if isinstance(node, ast.Call) and isinstance(node.func, ast.Name):
                    if node.func.id in ("sorted", "len"):
                        sets += node.args
                    if node.func.id == "set":
                        self.assertIn(node, sets, f"{path}:{node.lineno}")
                if isinstance(node, ast.Attribute):
                    self.assertNotIn(node.attr, ("sort", "format", "union"), f"{path}:{node.lineno}")

    def test_no_floats_and_no_state(self):
        wrong = (ast.Global, ast.AsyncFunctionDef, ast.Div)
        for path, tree in self.trees():
            for node in ast.walk(tree):
                self.assertNotIsInstance(node, wrong, f"{path}:{getattr(node, 'lineno', 0)}")
                if isinstance(node, ast.Constant):
                    self.assertNotIsInstance(node.value, (float, complex))
            for node in tree.body:
                told = isinstance(node, ast.Expr) and isinstance(node.value, ast.Constant)
                allowed = (ast.ImportFrom, ast.FunctionDef, ast.ClassDef, ast.Assign)
                self.assertTrue(told or isinstance(node, allowed), f"{path}:{node.lineno}")


if __name__ == "__main__":
    unittest.main()
