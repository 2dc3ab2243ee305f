"""The package uses no clock, no chance and no files: point [1]."""

import ast
import unittest
from pathlib import Path

PACKAGE = Path(__file__).resolve().parent.parent / "markbox"
# What the package may import from besides itself: none of it reads
# anything but its arguments.
LIBRARY = ("__future__", "collections", "heapq", "itertools", "math")
OUTWARD = ("open", "input", "print", "id", "hash", "eval", "exec", "compile", "__import__")


def trees():
    for path in sorted(PACKAGE.rglob("*.py")):
        yield path.name, ast.parse(path.read_text(encoding="utf-8"))


class Sources(unittest.TestCase):
    def test_the_files_are_found(self):
        names = [name for name, _ in trees()]
        self.assertLessEqual({"__init__.py", "boxes.py", "errors.py", "rules.py", "tables.py"}, set(names))

    def test_imports_are_from_the_package_or_from_what_only_counts(self):
        for name, tree in trees():
            for node in ast.walk(tree):
                self.assertNotIsInstance(node, ast.Import, name)
                if isinstance(node, ast.ImportFrom):
                    self.assertEqual(node.level, 0, name)
                    self.assertIn(node.module.split(".")[0], ("markbox", *LIBRARY), name)

    def test_no_builtin_that_reaches_outward(self):
        for name, tree in trees():
            for node in ast.walk(tree):
                if isinstance(node, ast.Name):
                    self.assertNotIn(node.id, OUTWARD, name)


if __name__ == "__main__":
    unittest.main()
