"""The rules of LANGUAGE.md that can be seen from the files of the package."""

import ast
import builtins
import pathlib
import unittest

PACKAGE = pathlib.Path(__file__).resolve().parent.parent / "homewords"
BARRED = (
    ast.Global, ast.AsyncFunctionDef, ast.AsyncFor, ast.AsyncWith, ast.Await, ast.Import, ast.Set, ast.SetComp,
    ast.Div, ast.Try, ast.With,
)
# What may be imported from outside the package; it is called by its bare name only.
LIBRARY = {"math": ("factorial",)}
BUILTINS = (
    "len", "range", "enumerate", "zip", "min", "max", "sum", "abs", "sorted", "reversed", "int", "str", "bool", "list",
    "tuple", "dict", "isinstance", "any", "all", "divmod", "super", "ValueError",
)


def files():
    return sorted(path for path in PACKAGE.rglob("*") if "__pycache__" not in path.parts and path.is_file())


def bound_names(tree):
    """All names that the file binds or that are its functions' own."""
    found = set(BUILTINS)
    for node in ast.walk(tree):
        if isinstance(node, (ast.FunctionDef, ast.ClassDef)):
            found.add(node.name)
        elif isinstance(node, ast.arg):
            found.add(node.arg)
        elif isinstance(node, ast.alias):
            found.add(node.name)
        elif isinstance(node, ast.Name) and isinstance(node.ctx, ast.Store):
            found.add(node.id)
    return found


class LanguageTest(unittest.TestCase):
    def test_files(self):
        self.assertTrue(files())
        for path in files():
            self.assertRegex(path.name, r"^[a-z0-9_]+\.py$")

    def test_sizes_and_signs(self):
        for path in files():
            text = path.read_text(encoding="utf-8")
            rows = text.split("\n")
            self.assertLessEqual(len(rows), 400, path)
            self.assertLessEqual(max(len(row) for row in rows), 120, path)
            self.assertEqual([sign for sign in text if not (" " <= sign <= "~" or sign == "\n")], [], path)
            for node in ast.walk(ast.parse(text)):
                if isinstance(node, ast.FunctionDef):
                    self.assertLessEqual(node.end_lineno - node.lineno + 1, 40, (path, node.name))

    def test_module_level(self):
        allowed = (ast.Expr, ast.ImportFrom, ast.FunctionDef, ast.ClassDef, ast.Assign)
        for path in files():
            for node in ast.parse(path.read_text(encoding="utf-8")).body:
                self.assertIsInstance(node, allowed, path)
                if isinstance(node, ast.Expr):
                    self.assertIsInstance(node.value, ast.Constant, path)

    def test_imports(self):
        for path in files():
            for node in ast.walk(ast.parse(path.read_text(encoding="utf-8"))):
                if isinstance(node, ast.ImportFrom):
                    self.assertEqual(node.level, 0, path)
                    self.assertEqual([alias.asname for alias in node.names], [None] * len(node.names), path)
                    if node.module in LIBRARY:
                        self.assertLessEqual({alias.name for alias in node.names}, set(LIBRARY[node.module]), path)
                    else:
                        self.check_own_names(path, node)

    def check_own_names(self, path, node):
        """What is imported stands in that very file of the package."""
        source = PACKAGE.parent / (node.module.replace(".", "/") + ".py")
        self.assertTrue(source.is_file(), path)
        defined = set()
        for row in ast.parse(source.read_text(encoding="utf-8")).body:
            if isinstance(row, (ast.FunctionDef, ast.ClassDef)):
                defined.add(row.name)
            elif isinstance(row, ast.Assign):
                defined.add(row.targets[0].id)
        self.assertLessEqual({alias.name for alias in node.names}, defined, path)

    def test_library_names_are_only_called(self):
        names = [name for told in LIBRARY.values() for name in told]
        for path in files():
            tree = ast.parse(path.read_text(encoding="utf-8"))
            called = [node.func for node in ast.walk(tree) if isinstance(node, ast.Call) and not node.keywords]
            for node in ast.walk(tree):
                if isinstance(node, ast.Name) and node.id in names:
                    self.assertIn(node, called, path)

    def test_each_name_of_a_file_is_used(self):
        for path in files():
            tree = ast.parse(path.read_text(encoding="utf-8"))
            read = {node.id for node in ast.walk(tree) if isinstance(node, ast.Name) and isinstance(node.ctx, ast.Load)}
            for node in tree.body:
                if isinstance(node, ast.ImportFrom):
                    self.assertLessEqual({alias.name for alias in node.names}, read, path)
                if isinstance(node, ast.FunctionDef) and node.name.startswith("_"):
                    self.assertIn(node.name, read, path)

    def test_methods_of_builtin_values(self):
        # L25 lists those that may be called; own methods have names that no builtin value's method has.
        told = (
            "append clear copy count endswith extend find get index insert isalnum isalpha isdigit islower isspace "
            "isupper items join keys ljust lower lstrip partition pop remove replace reverse rfind rjust rpartition "
            "rsplit rstrip setdefault split splitlines startswith strip update upper values zfill bit_length"
        ).split()
        own = {"__init__"}
        for path in files():
            nodes = ast.walk(ast.parse(path.read_text(encoding="utf-8")))
            own |= {node.name for node in nodes if isinstance(node, ast.FunctionDef)}
        # kept is a function that an object holds.
        for path in files():
            for node in ast.walk(ast.parse(path.read_text(encoding="utf-8"))):
                if isinstance(node, ast.Call) and isinstance(node.func, ast.Attribute):
                    self.assertIn(node.func.attr, own | set(told) | {"kept"}, path)

    def test_expressions(self):
        for path in files():
            for node in ast.walk(ast.parse(path.read_text(encoding="utf-8"))):
                self.assertNotIsInstance(node, BARRED, path)
                if isinstance(node, ast.Constant):
                    self.assertNotIsInstance(node.value, (float, complex), path)
                if isinstance(node, ast.BinOp) and isinstance(node.op, ast.Pow):
                    self.assertIsInstance(node.right, ast.Constant, path)
                    self.assertTrue(0 <= node.right.value <= 64, path)

    def test_names(self):
        for path in files():
            tree = ast.parse(path.read_text(encoding="utf-8"))
            known = bound_names(tree)
            for node in ast.walk(tree):
                if isinstance(node, ast.Name):
                    self.assertIn(node.id, known, path)

    def test_names_mean_one_thing(self):
        # A parameter or a local variable never has the name of a class, an import or a builtin of its file.
        for path in files():
            tree = ast.parse(path.read_text(encoding="utf-8"))
            held = set(dir(builtins))
            for node in ast.walk(tree):
                if isinstance(node, ast.ImportFrom):
                    held.update(alias.name for alias in node.names)
                elif isinstance(node, ast.ClassDef):
                    held.add(node.name)
            for node in ast.walk(tree):
                if isinstance(node, ast.arg):
                    self.assertNotIn(node.arg, held, path)
                elif isinstance(node, ast.Name) and isinstance(node.ctx, ast.Store):
                    self.assertNotIn(node.id, held, path)

    def test_no_two_files_import_from_each_other(self):
        needed = {}
        for path in files():
            nodes = ast.walk(ast.parse(path.read_text(encoding="utf-8")))
            own = [node.module for node in nodes if isinstance(node, ast.ImportFrom) and node.module not in LIBRARY]
            needed[path.stem] = [module.split(".")[1] for module in own]
        ahead = []
        while len(ahead) < len(needed):
            free = [name for name in needed if name not in ahead and all(part in ahead for part in needed[name])]
            self.assertTrue(free, sorted(set(needed) - set(ahead)))
            ahead += free


if __name__ == "__main__":
    unittest.main()
