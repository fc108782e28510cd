"""The package itself: it prints and imports nothing, and keeps to the sizes and signs it is held to."""

import ast
import contextlib
import inspect
import io
import pathlib
import subprocess
import sys
import unittest

from anewcounts.counters import answers

TOP = pathlib.Path(__file__).resolve().parent.parent
PACKAGE = TOP / "anewcounts"
FILES = sorted(path for path in PACKAGE.rglob("*") if path.is_file() and "__pycache__" not in path.parts)


class Package(unittest.TestCase):
    def test_the_interface(self):
        self.assertEqual(list(inspect.signature(answers).parameters), ["calls"])

    def test_nothing_is_printed_and_nothing_read(self):
        script = ("import anewcounts.counters as c, sys\n"
                  "sys.stdin = None\n"
                  "c.answers([1, 2, 2, 0, 1, 1, 2, 0, 3, 9, 4, 0, 1, 2, 5, 0, 1, 3, 6, 0, 0, 9, 7, 0, 1,"
                  " 8, 0, 1, 9, 0, 1, 2, 10, 1, 2, 1, 0, 11, 1, 1, 2, 12, 0, 3, 0, 1, 3, 0, 1])\n")
        done = subprocess.run([sys.executable, "-B", "-c", script], cwd=TOP, capture_output=True, check=True)
        self.assertEqual((done.stdout, done.stderr), (b"", b""))

    def test_a_call_by_itself_prints_nothing(self):
        shown = io.StringIO()
        with contextlib.redirect_stdout(shown), contextlib.redirect_stderr(shown):
            answers([4, 0, 0, 0])
        self.assertEqual(shown.getvalue(), "")

    def test_nothing_is_imported(self):
        for path in FILES:
            for node in ast.walk(ast.parse(path.read_text())):
                self.assertNotIsInstance(node, (ast.Import, ast.ImportFrom), path)

    def test_files(self):
        self.assertIn(PACKAGE / "__init__.py", FILES)
        for path in FILES:
            self.assertEqual(path.suffix, ".py")

    def test_sizes_and_signs(self):
        for path in FILES:
            text = path.read_text(encoding="utf-8")
            self.assertTrue(all(sign == "\n" or " " <= sign <= "~" for sign in text), path)
            self.assertLessEqual(len(text.splitlines()), 400, path)
            self.assertLessEqual(max(len(line) for line in text.splitlines()), 120, path)
            for node in ast.walk(ast.parse(text)):
                if isinstance(node, ast.FunctionDef):
                    self.assertLessEqual(node.end_lineno - node.lineno + 1, 40, node.name)


if __name__ == "__main__":
    unittest.main()
