"""The form of the code: a part of the rules of the language that a file itself shows."""

import ast
import unittest
from pathlib import Path

ROOT = Path(__file__).resolve().parent.parent
PACKAGE = ROOT / "filecross"
FILES = sorted(PACKAGE.glob("*.py"))
INTERFACE = {
    "errors.py": {"FileError": [], "BadRule": [], "BadPapers": [], "BadCabinet": [], "BadMarks": [],
                  "NoPaper": [], "NoHead": [], "NotFound": [], "BadText": []},
    "rules.py": {"heads_of": ["rule", "marks"], "main_of": ["rule", "marks"]},
    "filing.py": {"right": ["rule", "papers"], "found_by": ["rule", "papers", "name"]},
    "searching.py": {"slips": ["rule", "marks", "head"], "search": ["rule", "cabinet", "name", "marks"]},
    "mending.py": {"amiss": ["rule", "papers", "cabinet"], "mended": ["rule", "papers", "cabinet"],
                   "done": ["rule", "cabinet", "deeds"]},
    "likeness.py": {"parting": ["one", "other"], "alike": ["one", "other"]},
    "cards.py": {"needed": ["rule", "papers"], "come_to": ["cards", "head"],
                 "enough": ["rule", "papers", "cards"], "fewest": ["rule", "papers"]},
    "texts.py": {"written": ["rule"], "read_rule": ["text"]},
}
LIBRARY = {"itertools": {"combinations"}}


def parsed(path):
    """Tell the tree of a file."""
    return ast.parse(path.read_text(encoding="utf-8"))


class Form(unittest.TestCase):
    def test_the_interface_stands_in_its_files(self):
        for name, told in INTERFACE.items():
            defined = {}
            for node in parsed(PACKAGE / name).body:
                if isinstance(node, ast.ClassDef):
                    defined[node.name] = []
                if isinstance(node, ast.FunctionDef):
                    defined[node.name] = [argument.arg for argument in node.args.args]
            for word, arguments in told.items():
                self.assertEqual(defined[word], arguments, f"{name} {word}")

    def test_the_folder_holds_nothing_else(self):
        others = [path.name for path in PACKAGE.iterdir() if path.name != "__pycache__" and path not in FILES]
        self.assertEqual(others, [])
        self.assertIn(PACKAGE / "__init__.py", FILES)

    def test_sizes_and_signs(self):
        for path in FILES:
            text = path.read_text(encoding="utf-8")
            self.assertLessEqual(len(text.splitlines()), 399, path.name)
            self.assertLessEqual(max(len(row) for row in text.splitlines()), 120, path.name)
            self.assertEqual([sign for sign in text if sign != "\n" and not " " <= sign <= "~"], [], path.name)
            for node in ast.walk(parsed(path)):
                if isinstance(node, ast.FunctionDef):
                    self.assertLessEqual(node.end_lineno - node.lineno + 1, 40, node.name)

    def test_imports(self):
        for path in FILES:
            for node in ast.walk(parsed(path)):
                self.assertNotIsInstance(node, ast.Import, path.name)
                if isinstance(node, ast.ImportFrom):
                    self.assertEqual(node.level, 0)
                    names = {each.name for each in node.names}
                    known = node.module.startswith("filecross.") or names <= LIBRARY.get(node.module, set())
                    self.assertTrue(known and "*" not in names, path.name)

    def test_no_floats_no_quotients_no_stray_signs_in_strings(self):
        for path in FILES:
            for node in ast.walk(parsed(path)):
                self.assertNotIsInstance(node, ast.Div)
                if isinstance(node, ast.Constant):
                    self.assertNotIsInstance(node.value, float)
                    self.assertFalse(isinstance(node.value, str) and "%" in node.value)


if __name__ == "__main__":
    unittest.main()
