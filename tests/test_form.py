"""The outer form of the package: its files, their sizes and characters, what they import, where things stand."""

import ast
import unittest
from pathlib import Path

PACKAGE = Path(__file__).resolve().parent.parent / "causalports"

INTERFACE = {
    "errors": ("PortError", "BadSite", "BadRules", "BadNow", "BadKey", "BadWorth", "BadToken", "BadCount",
               "BadWants", "NotYet", "Stale", "BadLogs", "BadText"),
    "tokens": ("joined", "compared"),
    "rules": ("plainly",),
    "sites": ("Site",),
    "sessions": ("Session",),
    "judging": ("judged", "ordered"),
    "notes": ("written", "written_log", "read", "read_log"),
}

# What is handed in by its place, and behind a star what is handed in by its name or left out.
PARAMETERS = {
    "tokens.joined": "one, other",
    "tokens.compared": "one, other",
    "rules.plainly": "puts, rules, key",
    "sites.Site.__init__": "self, number, many, rules",
    "sites.Site.put": "self, now, key, worth, *, token=None",
    "sites.Site.look": "self, now, key, *, token=None, within=None",
    "sites.Site.letter": "self, now, to",
    "sites.Site.hear": "self, letter",
    "sites.Site.applied": "self",
    "sites.Site.waiting": "self",
    "sites.Site.log": "self",
    "sites.Site.kept": "self",
    "sites.Site.stale": "self, now",
    "sessions.Session.__init__": "self, many, *, wants=ALL_WANTS",
    "sessions.Session.look": "self, site, now, key, *, within=None",
    "sessions.Session.put": "self, site, now, key, worth",
    "sessions.Session.tokens": "self",
    "sessions.Session.take": "self, *, mine=None, seen=None",
    "judging.judged": "many, rules, logs",
    "judging.ordered": "many, rules, logs",
    "notes.written": "token",
    "notes.written_log": "log",
    "notes.read": "text",
    "notes.read_log": "text",
}

# The language allows some names out of these modules of the library, and none out of others.
LIBRARY = ("__future__", "collections", "heapq", "itertools", "math")


def sources():
    """Give each file of the package with its text."""
    for path in sorted(PACKAGE.glob("*.py")):
        yield path.name, path.read_text(encoding="utf-8")


class Form(unittest.TestCase):
    def test_the_folder_holds_python_files_alone(self):
        others = [path.name for path in PACKAGE.iterdir() if path.suffix != ".py" and path.name != "__pycache__"]
        self.assertEqual(others, [])
        self.assertTrue((PACKAGE / "__init__.py").is_file())

    def test_each_part_of_the_interface_is_defined_in_its_file(self):
        for name, parts in INTERFACE.items():
            tree = ast.parse((PACKAGE / f"{name}.py").read_text(encoding="utf-8"))
            defined = [row.name for row in tree.body if isinstance(row, (ast.FunctionDef, ast.ClassDef))]
            for part in parts:
                self.assertEqual(defined.count(part), 1, part)

    def test_each_function_and_method_has_the_parameters_of_the_interface(self):
        for path, parameters in PARAMETERS.items():
            file, *names = path.split(".")
            found = ast.parse((PACKAGE / f"{file}.py").read_text(encoding="utf-8"))
            for name in names:
                # In the very body of the class: a method that is inherited is none here.
                found = [row for row in found.body if getattr(row, "name", None) == name]
                self.assertEqual(len(found), 1, path)
                found = found[0]
            told = ast.parse(f"lambda {parameters}: 0").body[0].value.args
            self.assertEqual(ast.unparse(found.args), ast.unparse(told), path)

    def test_sizes_and_characters(self):
        for name, text in sources():
            lines = text.split("\n")
            self.assertLess(len(lines), 400, name)
            for at, line in enumerate(lines, 1):
                self.assertLessEqual(len(line), 120, (name, at))
                self.assertTrue(all(" " <= sign <= "~" for sign in line), (name, at))
            for row in ast.walk(ast.parse(text)):
                if isinstance(row, ast.FunctionDef):
                    self.assertLessEqual(row.end_lineno - row.lineno + 1, 40, (name, row.name))

    def test_imports_are_from_the_package_or_the_allowed_library(self):
        for name, text in sources():
            for row in ast.walk(ast.parse(text)):
                self.assertNotIsInstance(row, ast.Import, name)
                if isinstance(row, ast.ImportFrom):
                    self.assertEqual(row.level, 0, name)
                    self.assertTrue(row.module.startswith("causalports.") or row.module in LIBRARY, (name, row.module))


if __name__ == "__main__":
    unittest.main()
