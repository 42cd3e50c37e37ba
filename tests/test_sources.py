"""The package draws on nothing but itself, so on no clock, no chance and no file."""

import ast
import pathlib
import unittest

PACKAGE = pathlib.Path(__file__).resolve().parent.parent / "towpath"
MODULES = ("errors.py", "stretches.py", "asking.py", "day.py")
REACHING_OUT = {"open", "input", "eval", "exec", "compile", "getattr", "globals", "vars", "id", "hash", "__import__",
                "__builtins__"}


class Sources(unittest.TestCase):
    def trees(self):
        paths = sorted(PACKAGE.rglob("*.py"))
        for module in MODULES:
            self.assertIn(PACKAGE / module, paths)
        return [(path.name, ast.parse(path.read_text(encoding="ascii"))) for path in paths]

    def test_only_own_modules_are_imported(self):
        for name, tree in self.trees():
            for node in ast.walk(tree):
                self.assertNotIsInstance(node, ast.Import, name)
                if isinstance(node, ast.ImportFrom):
                    self.assertEqual(node.level, 0, name)
                    self.assertTrue(node.module.startswith("towpath."), (name, node.module))

    def test_no_name_that_reaches_out(self):
        for name, tree in self.trees():
            used = {node.id for node in ast.walk(tree) if isinstance(node, ast.Name)}
            self.assertEqual(used & REACHING_OUT, set(), name)


if __name__ == "__main__":
    unittest.main()
