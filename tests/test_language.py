"""Rules of LANGUAGE.md that a look at the files can decide: L1, L2, L8, L10, L14 to L16, L25 and others in part."""

import ast
import builtins
import pathlib
import re
import unittest

PACKAGE = pathlib.Path(__file__).resolve().parent.parent / "commonground"
FILES = sorted(PACKAGE.rglob("*.py"))
LIBRARY = {"heapq", "math", "itertools", "collections", "__future__"}
BUILTINS = set(
    "len range enumerate zip min max sum abs sorted reversed int str bool bytes list tuple dict set frozenset"
    " isinstance ord chr repr any all divmod pow getattr hasattr setattr iter next map super Exception ValueError"
    " TypeError KeyError IndexError LookupError ZeroDivisionError ArithmeticError OverflowError RuntimeError"
    " NotImplementedError"
    " AttributeError StopIteration NotImplemented property staticmethod classmethod print object float".split()
)
BARRED = set("register mro elements open input law eval exec globals locals vars dir id".split())
METHODS = set(
    "append clear copy count endswith extend find get index insert isalnum isalpha isdigit islower isspace isupper"
    " items join keys ljust lower lstrip partition pop remove replace reverse rfind rjust rpartition rsplit rstrip"
    " setdefault split splitlines startswith strip update upper values zfill bit_length add discard sort __init__".split()
)
FUNCTION_KINDS = (ast.FunctionDef, ast.Lambda)


def trees():
    return [(path, ast.parse(path.read_text(encoding="utf-8"))) for path in FILES]


class LanguageTest(unittest.TestCase):
    def test_files(self):
        self.assertLessEqual(len(FILES), 100)
        for path in PACKAGE.rglob("*"):
            if "__pycache__" not in path.parts:
                self.assertTrue(path.is_dir() or re.fullmatch(r"[a-z_0-9]+\.py", path.name), path)
        for folder in [PACKAGE] + [path for path in PACKAGE.rglob("*") if path.is_dir()]:
            if folder.name != "__pycache__":
                self.assertTrue((folder / "__init__.py").is_file(), folder)

    def test_sizes_and_characters(self):
        for path in FILES:
            text = path.read_text(encoding="utf-8")
            lines = text.split("\n")
            self.assertLessEqual(len(lines), 400, path)
            self.assertTrue(all(sign == "\n" or " " <= sign <= "~" for sign in text), path)
            for number, line in enumerate(lines, 1):
                self.assertLessEqual(len(line), 120, (path, number))
        for path, tree in trees():
            for node in ast.walk(tree):
                if isinstance(node, ast.FunctionDef):
                    self.assertLessEqual(node.end_lineno - node.lineno + 1, 40, (path, node.name))

    def test_imports(self):
        for path, tree in trees():
            for node in ast.walk(tree):
                if isinstance(node, ast.ImportFrom):
                    top = (node.module or "").split(".")[0]
                    self.assertTrue(node.level == 0 and (top == "commonground" or top in LIBRARY), (path, node.lineno))
                elif isinstance(node, ast.Import):
                    self.assertEqual((path.name, [a.name for a in node.names]), ("__main__.py", ["sys"]), node.lineno)

    def test_builtins(self):
        for path, tree in trees():
            for node in ast.walk(tree):
                if isinstance(node, ast.Name) and hasattr(builtins, node.id) and not node.id.startswith("__"):
                    self.assertIn(node.id, BUILTINS, (path, node.lineno))
                    self.assertIsInstance(node.ctx, ast.Load, (path, node.lineno))
                if isinstance(node, ast.arg):
                    self.assertFalse(hasattr(builtins, node.arg), (path, node.lineno))

    def test_names(self):
        for path, tree in trees():
            for node in ast.walk(tree):
                for name in (getattr(node, "id", None), getattr(node, "arg", None), getattr(node, "name", None)):
                    self.assertNotIn(name, BARRED, (path, getattr(node, "lineno", 0)))

    def test_methods(self):
        """L25: only these methods of builtin values, and those that the package defines."""
        own = set()
        for _, tree in trees():
            for node in ast.walk(tree):
                if isinstance(node, ast.ClassDef):
                    own.update(each.name for each in node.body if isinstance(each, ast.FunctionDef))
        for path, tree in trees():
            for node in ast.walk(tree):
                if isinstance(node, ast.Call) and isinstance(node.func, ast.Attribute):
                    self.assertIn(node.func.attr, own | METHODS, (path, node.lineno))

    def test_bound_names(self):
        """L15: a name is bound once at module level, and no local name is that of a class or an import of its file."""
        for path, tree in trees():
            bound = []
            for node in tree.body:
                if isinstance(node, (ast.FunctionDef, ast.ClassDef)):
                    bound.append(node.name)
                elif isinstance(node, ast.ImportFrom):
                    bound += [each.asname or each.name for each in node.names]
                elif isinstance(node, ast.Assign):
                    bound += [each.id for each in node.targets]
            self.assertEqual(len(bound), len(set(bound)), path)
            barred = set(bound) - {each.name for each in tree.body if isinstance(each, ast.FunctionDef)}
            for function in ast.walk(tree):
                if isinstance(function, FUNCTION_KINDS):
                    for node in ast.walk(function):
                        if isinstance(node, ast.Name) and isinstance(node.ctx, ast.Store):
                            self.assertNotIn(node.id, barred, (path, node.lineno))
                        if isinstance(node, ast.arg):
                            self.assertNotIn(node.arg, barred, (path, node.lineno))

    def test_members(self):
        """L18: no name is a method and an attribute in one class, and no method is defined twice."""
        for path, tree in trees():
            for owner in [node for node in ast.walk(tree) if isinstance(node, ast.ClassDef)]:
                methods = [each.name for each in owner.body if isinstance(each, ast.FunctionDef)]
                self.assertEqual(len(methods), len(set(methods)), (path, owner.name))
                stored = {node.attr for node in ast.walk(owner)
                          if isinstance(node, ast.Attribute) and isinstance(node.ctx, ast.Store)}
                self.assertFalse(stored & set(methods), (path, owner.name))

    def test_no_two_files_import_from_each_other(self):
        """L16, and that each import names the very file that defines the name."""
        files = {".".join(path.relative_to(PACKAGE.parent).with_suffix("").parts): tree for path, tree in trees()}
        wanted = {}
        for module, tree in files.items():
            imports = [node for node in tree.body if isinstance(node, ast.ImportFrom) and node.module in files]
            wanted[module] = {node.module for node in imports}
            for node in imports:
                there = files[node.module].body
                defined = {each.name for each in there if isinstance(each, (ast.FunctionDef, ast.ClassDef))}
                defined |= {each.targets[0].id for each in there if isinstance(each, ast.Assign)}
                self.assertLessEqual({each.name for each in node.names}, defined, (module, node.lineno))
        while wanted:
            free = [module for module, others in wanted.items() if not others & set(wanted)]
            self.assertTrue(free, wanted)
            wanted = {module: others for module, others in wanted.items() if module not in free}

    def test_statements(self):
        """L6 and L20: statements that are not allowed, and "is" with None, True and False only."""
        for path, tree in trees():
            for node in ast.walk(tree):
                self.assertNotIsInstance(node, (ast.Global, ast.AsyncFunctionDef, ast.AsyncFor, ast.Await), path)
                if isinstance(node, ast.Compare) and isinstance(node.ops[0], (ast.Is, ast.IsNot)):
                    self.assertIsInstance(node.comparators[0], ast.Constant, (path, node.lineno))

    def test_stars(self):
        """L7: behind the star of a call stand names, attributes off a name, literals, and lists and tuples of these."""
        for path, tree in trees():
            for node in ast.walk(tree):
                if isinstance(node, ast.Call):
                    for each in [a.value for a in node.args if isinstance(a, ast.Starred)]:
                        self.assertTrue(isinstance(each, (ast.Name, ast.List, ast.Tuple)) or
                                        isinstance(each, ast.Attribute) and isinstance(each.value, ast.Name),
                                        (path, node.lineno))

    def test_sets(self):
        """L24: a set stands behind in, beside == or !=, or directly in sorted or len."""
        for path, tree in trees():
            allowed = set()
            for node in ast.walk(tree):
                if isinstance(node, ast.Compare) and isinstance(node.ops[0], (ast.In, ast.NotIn, ast.Eq, ast.NotEq)):
                    allowed.update(map(id, [node.left] + node.comparators))
                if isinstance(node, ast.Call) and isinstance(node.func, ast.Name) and node.func.id in ("sorted", "len"):
                    if not node.keywords:
                        allowed.update(map(id, node.args))
                if isinstance(node, ast.Assign) and len(node.targets) == 1 and isinstance(node.targets[0], ast.Name):
                    allowed.add(id(node.value))
            for node in ast.walk(tree):
                made = isinstance(node, ast.Call) and isinstance(node.func, ast.Name) and node.func.id == "set"
                if made or isinstance(node, (ast.Set, ast.SetComp)):
                    self.assertIn(id(node), allowed, (path, node.lineno))

    def test_iterated_at_once(self):
        """L23: zip, enumerate and reversed stand where they are iterated, as the first argument of what iterates them."""
        within = set("list tuple dict sorted sum any all enumerate zip min max".split())
        for path, tree in trees():
            allowed = set()
            for node in ast.walk(tree):
                if isinstance(node, (ast.For, ast.comprehension)):
                    allowed.add(id(node.iter))
                if isinstance(node, ast.Call) and isinstance(node.func, ast.Name) and node.func.id in within and node.args:
                    allowed.add(id(node.args[0]))
            for node in ast.walk(tree):
                if isinstance(node, ast.Call) and isinstance(node.func, ast.Name):
                    if node.func.id in ("zip", "enumerate", "reversed"):
                        self.assertIn(id(node), allowed, (path, node.lineno))

    def test_generator_expressions(self):
        """L7: a generator expression stands directly in a call of what iterates it, beside names and literals."""
        within = set("list tuple dict sorted sum min max any all".split())
        for path, tree in trees():
            allowed = set()
            for node in ast.walk(tree):
                if isinstance(node, ast.Call) and isinstance(node.func, ast.Name) and node.func.id in within:
                    allowed.update(map(id, node.args))
            for node in ast.walk(tree):
                if isinstance(node, ast.GeneratorExp):
                    self.assertIn(id(node), allowed, (path, node.lineno))

    def test_words(self):
        """L12, L17, L27: words and signs that do not occur in strings and names."""
        barred = set("typing enum Enum Generic Protocol ABC namedtuple dataclass".split())
        for path, tree in trees():
            for node in ast.walk(tree):
                if isinstance(node, ast.Attribute) and isinstance(node.ctx, ast.Store):
                    self.assertNotIn(node.attr, METHODS - {"count", "index", "find", "get", "join", "copy", "add"}, path)
                if isinstance(node, ast.Constant) and isinstance(node.value, str):
                    self.assertFalse(barred & set(re.findall("[a-zA-Z]+", node.value)), (path, node.lineno))
                for name in (getattr(node, "id", None), getattr(node, "name", None), getattr(node, "attr", None)):
                    if isinstance(name, str):
                        self.assertRegex(name, "^(__init__|__iter__|_?[A-Za-z][A-Za-z0-9_]*|_)$")

    def test_methods_and_attributes_of_all_classes(self):
        """L18, more narrowly than it asks: no name is a method in one class and an attribute in another."""
        methods, stored = {}, {}
        for path, tree in trees():
            for owner in [node for node in ast.walk(tree) if isinstance(node, ast.ClassDef)]:
                methods.update({each.name: owner.name for each in owner.body if isinstance(each, ast.FunctionDef)})
                for node in ast.walk(owner):
                    if isinstance(node, ast.Attribute) and isinstance(node.ctx, ast.Store):
                        stored[node.attr] = owner.name
        self.assertEqual({name: (methods[name], stored[name]) for name in set(methods) & set(stored)}, {})

    def test_no_floats(self):
        for path, tree in trees():
            for node in ast.walk(tree):
                self.assertNotIsInstance(node, (ast.Div, ast.Global, ast.AsyncFunctionDef), path)
                if isinstance(node, ast.Constant):
                    self.assertNotIsInstance(node.value, (float, complex), (path, node.lineno))
                    self.assertFalse(isinstance(node.value, str) and chr(37) in node.value, (path, node.lineno))


if __name__ == "__main__":
    unittest.main()
