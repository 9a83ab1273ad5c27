"""The package: what lies in it, what its calls are handed, and that it prints, reads and imports nothing."""

import ast
import contextlib
import inspect
import io
import pathlib
import re
import unittest

import ringsheld
from ringsheld import people

FOLDER = pathlib.Path(ringsheld.__file__).parent
CALLS = {
    "rings": ["n", "friends"],
    "peeled": ["n", "friends"],
    "worths": ["n", "k", "friends", "groups"],
    "leavers": ["n", "k", "w", "friends", "groups"],
    "core": ["n", "k", "w", "friends"],
    "close": ["n", "s", "friends"],
}
GOOD = {"n": 3, "k": 1, "w": 1, "s": 5, "friends": [2, 4, 1], "groups": [0, 2, 0]}
REFUSED = {"n": 0, "k": 2, "w": 2, "s": 8, "friends": [], "groups": []}
OWN_NAMES = ("len", "range")
README = FOLDER.parent / "README.md"


def sources():
    return [(path.name, path.read_text(encoding="utf-8")) for path in sorted(FOLDER.glob("*.py"))]


class Package(unittest.TestCase):
    def test_the_calls_and_what_they_are_handed(self):
        for name, arguments in CALLS.items():
            with self.subTest(name):
                self.assertEqual(list(inspect.signature(getattr(people, name)).parameters), arguments)

    def test_the_calls_in_the_readme_answer_as_it_says(self):
        rows = re.findall(r"^(\w+)\((.*)\) +# (\[.*?\]):", README.read_text(encoding="utf-8"), re.MULTILINE)
        self.assertEqual({name for name, handed, answer in rows}, set(CALLS))
        for name, handed, answer in rows:
            with self.subTest(name, handed=handed):
                self.assertEqual(getattr(people, name)(*ast.literal_eval(f"[{handed}]")), ast.literal_eval(answer))

    def test_nothing_is_printed(self):
        said = io.StringIO()
        with contextlib.redirect_stdout(said), contextlib.redirect_stderr(said):
            for name, arguments in CALLS.items():
                for values in (GOOD, REFUSED):
                    getattr(people, name)(*[values[argument] for argument in arguments])
        self.assertEqual(said.getvalue(), "")

    def test_nothing_is_imported(self):
        for name, text in sources():
            for node in ast.walk(ast.parse(text)):
                self.assertNotIsInstance(node, (ast.Import, ast.ImportFrom), name)

    def test_only_own_defs_and_plain_names_are_called(self):
        for name, text in sources():
            tree = ast.parse(text)
            defs = [node.name for node in tree.body if isinstance(node, ast.FunctionDef)]
            for node in ast.walk(tree):
                if isinstance(node, ast.Call) and isinstance(node.func, ast.Name):
                    self.assertIn(node.func.id, defs + list(OWN_NAMES), name)

    def test_the_folder_holds_plain_files_alone(self):
        lying = sorted(path.name for path in FOLDER.iterdir() if path.name != "__pycache__")
        self.assertEqual(lying, ["__init__.py", "people.py"])

    def test_sizes_and_signs(self):
        for name, text in sources():
            rows = text.split("\n")
            self.assertLessEqual(len(rows), 400, name)
            for row in rows:
                self.assertLessEqual(len(row), 120, name)
                self.assertTrue(all(" " <= sign <= "~" for sign in row), (name, row))
            for node in ast.walk(ast.parse(text)):
                if isinstance(node, ast.FunctionDef):
                    self.assertLessEqual(node.end_lineno - node.lineno + 1, 40, node.name)
