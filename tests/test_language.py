"""Rules of the language that a look at the files can tell."""

import ast
import pathlib
import unittest

import drivermatch

FOLDER = pathlib.Path(drivermatch.__file__).parent
BUILTINS = set("""len range enumerate zip min max sum abs sorted reversed int str bool list tuple dict set isinstance
    ord repr any all divmod super Exception ValueError KeyError""".split())
LIBRARY = {"heapq", "math", "itertools", "collections"}
BARRED = (ast.Global, ast.AsyncFunctionDef, ast.AsyncFor, ast.Await, ast.Div, ast.Import)


def trees():
    for path in sorted(FOLDER.glob("*.py")):
        yield path.name, ast.parse(path.read_text(encoding="utf-8"))


def bound(tree):
    """All names that a file binds somewhere."""
    for node in ast.walk(tree):
        if isinstance(node, ast.Name) and isinstance(node.ctx, ast.Store):
            yield node.id
        elif isinstance(node, (ast.FunctionDef, ast.ClassDef)):
            yield node.name
        elif isinstance(node, ast.MatchAs) and node.name:
            yield node.name
        elif isinstance(node, ast.arg):
            yield node.arg
        elif isinstance(node, ast.alias):
            yield node.asname or node.name


def strings(tree):
    for node in ast.walk(tree):
        if isinstance(node, ast.Constant) and isinstance(node.value, str):
            yield node.value


class Language(unittest.TestCase):
    def test_the_folder_holds_plain_files_only(self):
        names = [path.name for path in FOLDER.iterdir() if path.name != "__pycache__"]
        self.assertIn("__init__.py", names)
        for name in names:
            self.assertRegex(name, r"^[a-z_][a-z0-9_]*\.py$")

    def test_characters_lines_and_sizes(self):
        for path in FOLDER.glob("*.py"):
            text = path.read_bytes().decode("ascii")
            self.assertNotRegex(text, r"[^ -~\n]", path.name)
            lines = text.split("\n")
            self.assertLess(len(lines), 400, path.name)
            self.assertLessEqual(max(map(len, lines)), 120, path.name)
        for name, tree in trees():
            for node in ast.walk(tree):
                if isinstance(node, ast.FunctionDef):
                    self.assertLessEqual(node.end_lineno - node.lineno + 1, 40, (name, node.name))

    def test_imports_name_the_file_that_defines_the_name(self):
        defined = {name[:-3]: set(bound(tree)) for name, tree in trees()}
        for name, tree in trees():
            for node in ast.walk(tree):
                if isinstance(node, ast.ImportFrom) and node.module not in LIBRARY:
                    package, _, module = node.module.partition(".")
                    self.assertEqual(package, "drivermatch", name)
                    for alias in node.names:
                        self.assertIn(alias.name, defined[module], name)

    def test_no_barred_statements_decorators_or_builtins(self):
        for name, tree in trees():
            names = set(bound(tree))
            for node in ast.walk(tree):
                self.assertNotIsInstance(node, BARRED, name)
                if isinstance(node, (ast.FunctionDef, ast.ClassDef)):
                    self.assertEqual(node.decorator_list, [], name)
                if isinstance(node, ast.Name) and isinstance(node.ctx, ast.Load):
                    self.assertIn(node.id, names | BUILTINS, name)

    def test_no_builtin_is_given_another_meaning(self):
        import builtins
        for name, tree in trees():
            self.assertEqual(set(bound(tree)) & set(dir(builtins)), set(), name)

    def test_no_percent_sign_in_a_string(self):
        for name, tree in trees():
            for text in strings(tree):
                self.assertNotIn("%", text, name)
