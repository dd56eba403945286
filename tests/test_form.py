"""The outer form of the package: its files, their sizes and characters, what they import, where things stand."""

import ast
import unittest
from pathlib import Path

PACKAGE = Path(__file__).resolve().parent.parent / "causalports"

INTERFACE = {
    "errors": ("PortError", "BadSite", "BadRules", "BadNow", "BadKey", "BadWorth", "BadToken", "BadCount",
               "BadWants", "NotYet", "Stale", "BadLogs", "BadText"),
    "tokens": ("joined", "compared"),
    "rules": ("plainly",),
}

# The language allows some names out of these modules of the library, and none out of others.
LIBRARY = ("__future__", "collections", "heapq", "itertools", "math")


def sources():
    """Give each file of the package with its text."""
    for path in sorted(PACKAGE.glob("*.py")):
        yield path.name, path.read_text(encoding="utf-8")


class Form(unittest.TestCase):
    def test_the_folder_holds_python_files_alone(self):
        others = [path.name for path in PACKAGE.iterdir() if path.suffix != ".py" and path.name != "__pycache__"]
        self.assertEqual(others, [])
        self.assertTrue((PACKAGE / "__init__.py").is_file())

    def test_each_part_of_the_interface_is_defined_in_its_file(self):
        for name, parts in INTERFACE.items():
            tree = ast.parse((PACKAGE / f"{name}.py").read_text(encoding="utf-8"))
            defined = [row.name for row in tree.body if isinstance(row, (ast.FunctionDef, ast.ClassDef))]
            for part in parts:
                self.assertEqual(defined.count(part), 1, part)

    def test_sizes_and_characters(self):
        for name, text in sources():
            lines = text.split("\n")
            self.assertLess(len(lines), 400, name)
            for at, line in enumerate(lines, 1):
                self.assertLessEqual(len(line), 120, (name, at))
                self.assertTrue(all(" " <= sign <= "~" for sign in line), (name, at))
            for row in ast.walk(ast.parse(text)):
                if isinstance(row, ast.FunctionDef):
                    self.assertLessEqual(row.end_lineno - row.lineno + 1, 40, (name, row.name))

    def test_imports_are_from_the_package_or_the_allowed_library(self):
        for name, text in sources():
            for row in ast.walk(ast.parse(text)):
                self.assertNotIsInstance(row, ast.Import, name)
                if isinstance(row, ast.ImportFrom):
                    self.assertEqual(row.level, 0, name)
                    self.assertTrue(row.module.startswith("causalports.") or row.module in LIBRARY, (name, row.module))


if __name__ == "__main__":
    unittest.main()
