"""Rules of LANGUAGE.md that a look at the files can decide: L1, L2, L8, L10, L14, L25 and some words of L17."""

import ast
import builtins
import pathlib
import re
import unittest

PACKAGE = pathlib.Path(__file__).resolve().parent.parent / "commonground"
FILES = sorted(PACKAGE.rglob("*.py"))
LIBRARY = {"heapq", "math", "itertools", "collections", "__future__"}
BUILTINS = set(
    "len range enumerate zip min max sum abs sorted reversed int str bool bytes list tuple dict set frozenset"
    " isinstance ord chr repr any all divmod pow getattr hasattr setattr iter next map super Exception ValueError"
    " TypeError KeyError IndexError LookupError ZeroDivisionError ArithmeticError OverflowError RuntimeError"
    " NotImplementedError"
    " AttributeError StopIteration NotImplemented property staticmethod classmethod print object float".split()
)
BARRED = set("register mro elements open input law eval exec globals locals vars dir id".split())


def trees():
    return [(path, ast.parse(path.read_text(encoding="utf-8"))) for path in FILES]


class LanguageTest(unittest.TestCase):
    def test_files(self):
        self.assertLessEqual(len(FILES), 100)
        for path in PACKAGE.rglob("*"):
            if "__pycache__" not in path.parts:
                self.assertTrue(path.is_dir() or re.fullmatch(r"[a-z_0-9]+\.py", path.name), path)
        for folder in [PACKAGE] + [path for path in PACKAGE.rglob("*") if path.is_dir()]:
            if folder.name != "__pycache__":
                self.assertTrue((folder / "__init__.py").is_file(), folder)

    def test_sizes_and_characters(self):
        for path in FILES:
            text = path.read_text(encoding="utf-8")
            lines = text.split("\n")
            self.assertLessEqual(len(lines), 400, path)
            self.assertTrue(all(sign == "\n" or " " <= sign <= "~" for sign in text), path)
            for number, line in enumerate(lines, 1):
                self.assertLessEqual(len(line), 120, (path, number))
        for path, tree in trees():
            for node in ast.walk(tree):
                if isinstance(node, ast.FunctionDef):
                    self.assertLessEqual(node.end_lineno - node.lineno + 1, 40, (path, node.name))

    def test_imports(self):
        for path, tree in trees():
            for node in ast.walk(tree):
                if isinstance(node, ast.ImportFrom):
                    top = (node.module or "").split(".")[0]
                    self.assertTrue(node.level == 0 and (top == "commonground" or top in LIBRARY), (path, node.lineno))
                elif isinstance(node, ast.Import):
                    self.assertEqual((path.name, [a.name for a in node.names]), ("__main__.py", ["sys"]), node.lineno)

    def test_builtins(self):
        for path, tree in trees():
            for node in ast.walk(tree):
                if isinstance(node, ast.Name) and hasattr(builtins, node.id) and not node.id.startswith("__"):
                    self.assertIn(node.id, BUILTINS, (path, node.lineno))
                    self.assertIsInstance(node.ctx, ast.Load, (path, node.lineno))
                if isinstance(node, ast.arg):
                    self.assertFalse(hasattr(builtins, node.arg), (path, node.lineno))

    def test_names(self):
        for path, tree in trees():
            for node in ast.walk(tree):
                for name in (getattr(node, "id", None), getattr(node, "arg", None), getattr(node, "name", None)):
                    self.assertNotIn(name, BARRED, (path, getattr(node, "lineno", 0)))

    def test_no_floats(self):
        for path, tree in trees():
            for node in ast.walk(tree):
                self.assertNotIsInstance(node, (ast.Div, ast.Global, ast.AsyncFunctionDef), path)
                if isinstance(node, ast.Constant):
                    self.assertNotIsInstance(node.value, (float, complex), (path, node.lineno))
                    self.assertFalse(isinstance(node.value, str) and chr(37) in node.value, (path, node.lineno))


if __name__ == "__main__":
    unittest.main()
