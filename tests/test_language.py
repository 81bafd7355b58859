"""A few rules of ../shared/LANGUAGE.md that a program can look for in the files of the package."""

import ast
import builtins
import pathlib
import re
import unittest

PACKAGE = pathlib.Path(__file__).resolve().parent.parent / "tripladder"
BUILTINS = set(
    "len range enumerate zip min max sum abs sorted reversed int str bool list tuple dict set isinstance ord "
    "repr any all divmod LookupError IndexError ValueError KeyError".split())
LIBRARY = ("heapq", "math", "itertools", "collections")
METHODS = set(
    "append clear copy count endswith extend find get index insert isalnum isalpha isascii isdigit islower isspace "
    "isupper items join keys ljust lower lstrip partition pop remove replace reverse rfind rjust rpartition rsplit "
    "rstrip setdefault split splitlines startswith strip update upper values zfill bit_length add discard".split())
BARRED = ("type", "typing", "enum", "Enum", "Generic", "Protocol", "ABC", "namedtuple", "dataclass", "overload",
          "contextmanager", "abstractmethod", "_wall", "_WallAttr")
NOT_NAMES = ("register", "mro", "elements", "open", "input", "law", "version_info", "with_traceback", "add_note",
             "compile", "copyright", "credits", "dir", "eval", "exec", "exit", "gc", "globals", "help", "id", "license",
             "locals", "os", "quit", "super", "vars", "hash", "map", "next", "iter", "round", "print", "format")
NOT_ALLOWED = (ast.Global, ast.AsyncFor, ast.AsyncWith, ast.AsyncFunctionDef, ast.Await, ast.Import)


def trees():
    """(path, text, tree) of each file of the package."""
    for path in sorted(PACKAGE.rglob("*.py")):
        text = path.read_text(encoding="utf-8")
        yield path, text, ast.parse(text)


def without_docstrings(tree):
    """The words of a tree without its comments and docstrings."""
    for node in ast.walk(tree):
        if isinstance(node, (ast.Module, ast.ClassDef, ast.FunctionDef)) and ast.get_docstring(node) is not None:
            node.body = node.body[1:] or [ast.Pass()]
    return ast.unparse(tree)


class Rules(unittest.TestCase):
    def test_the_folder_holds_only_python_files(self):
        kinds = {path.suffix for path in PACKAGE.rglob("*") if path.is_file() and "__pycache__" not in path.parts}
        self.assertEqual(kinds, {".py"})

    def test_characters_and_sizes(self):
        for path, text, tree in trees():
            self.assertIsNone(re.search("[^\n -~]", text), path)
            self.assertLessEqual(text.count("\n"), 399, path)
            self.assertLessEqual(max(len(line) for line in text.split("\n")), 120, path)
            for node in ast.walk(tree):
                if isinstance(node, ast.FunctionDef):
                    self.assertLessEqual(node.end_lineno - node.lineno + 1, 40, (path, node.name))

    def test_a_module_holds_imports_functions_classes_and_plain_names(self):
        for path, _, tree in trees():
            self.assertIsNotNone(ast.get_docstring(tree), path)
            for node in tree.body[1:]:
                kinds = (ast.ImportFrom, ast.FunctionDef, ast.ClassDef, ast.Assign)
                self.assertIsInstance(node, kinds, (path, node.lineno))

    def test_imports_come_from_the_file_that_defines_the_name(self):
        for path, _, tree in trees():
            for node in [node for node in ast.walk(tree) if isinstance(node, ast.ImportFrom)]:
                self.assertEqual((node.level, [item.asname for item in node.names]), (0, [None] * len(node.names)))
                if node.module not in LIBRARY:
                    home = PACKAGE.parent / (node.module.replace(".", "/") + ".py")
                    for item in node.names:
                        self.assertRegex(home.read_text(), rf"(?m)^((def|class) {item.name}\b|{item.name} = )", path)

    def test_only_builtins_that_are_allowed(self):
        # A doctest of another file that ran in this process leaves its last result there as `_`.
        builtin_names = set(dir(builtins)) - {"_"}
        for path, _, tree in trees():
            for node in [node for node in ast.walk(tree) if isinstance(node, ast.Name)]:
                if node.id in builtin_names:
                    self.assertIn(node.id, BUILTINS, (path, node.lineno))
                    self.assertIsInstance(node.ctx, ast.Load, (path, node.lineno))

    def test_only_statements_methods_and_names_that_are_allowed(self):
        for path, _, tree in trees():
            for node in ast.walk(tree):
                self.assertNotIsInstance(node, NOT_ALLOWED, (path, getattr(node, "lineno", 0)))
                if isinstance(node, (ast.FunctionDef, ast.ClassDef)):
                    self.assertNotIn(node.name, NOT_NAMES, (path, node.lineno))
                if isinstance(node, ast.FunctionDef):
                    self.assertFalse({arg.arg for arg in node.args.args} & {*NOT_NAMES, *BUILTINS}, (path, node.name))
                if isinstance(node, ast.Call) and isinstance(node.func, ast.Attribute):
                    self.assertIn(node.func.attr, METHODS, (path, node.lineno))
                if isinstance(node, ast.Name) and isinstance(node.ctx, ast.Store):
                    self.assertNotIn(node.id, NOT_NAMES, (path, node.lineno))

    def test_no_local_name_is_that_of_an_import_or_class(self):
        for path, _, tree in trees():
            known = {item.name for node in tree.body if isinstance(node, ast.ImportFrom) for item in node.names}
            known |= {node.name for node in tree.body if isinstance(node, (ast.ClassDef, ast.FunctionDef))}
            for node in ast.walk(tree):
                if isinstance(node, ast.arg):
                    self.assertNotIn(node.arg, known, (path, node.lineno))
                if isinstance(node, ast.Name) and isinstance(node.ctx, ast.Store):
                    self.assertNotIn(node.id, known, (path, node.lineno))

    def test_words_that_are_barred(self):
        for path, text, tree in trees():
            self.assertNotIn("_wall", text, path)
            code = without_docstrings(tree)
            for word in BARRED:
                self.assertIsNone(re.search(rf"\b{word}\b", code), (path, word))
            for node in [node for node in ast.walk(tree) if isinstance(node, ast.Constant)]:
                if isinstance(node.value, (str, float)):
                    self.assertNotIsInstance(node.value, float, path)
                    self.assertNotIn("%", node.value, path)


if __name__ == "__main__":
    unittest.main()
