"""Rules of the language that the files of the package keep, as far as a short test can see them."""

import ast
import builtins
import pathlib
import unittest

import truelevels

FOLDER = pathlib.Path(truelevels.__file__).parent
LIBRARY = {"heapq", "math", "itertools", "collections"}
BUILTINS = set(
    "len range enumerate zip min max sum abs sorted reversed int str bool bytes list tuple dict set frozenset"
    " isinstance ord repr any all divmod pow getattr hasattr setattr iter next map super type property staticmethod"
    " classmethod object float Exception ValueError TypeError KeyError IndexError LookupError ZeroDivisionError"
    " ArithmeticError OverflowError RuntimeError NotImplementedError AttributeError StopIteration"
    " NotImplemented".split()
)


def sources():
    """The files of the package with their texts."""
    return [(path, path.read_text(encoding="utf-8")) for path in sorted(FOLDER.rglob("*.py"))]


def nodes():
    """All nodes of all files, with a name for messages."""
    for path, text in sources():
        for node in ast.walk(ast.parse(text)):
            yield f"{path.name}:{getattr(node, 'lineno', 0)}", node


class Files(unittest.TestCase):
    def test_the_folder_has_python_files_alone(self):
        for path in FOLDER.rglob("*"):
            if "__pycache__" not in path.parts and path.is_file():
                self.assertEqual(path.suffix, ".py", path)

    def test_sizes(self):
        for path, text in sources():
            lines = text.split("\n")
            self.assertLessEqual(len(lines) - 1, 399, path)
            for number, line in enumerate(lines, start=1):
                self.assertLessEqual(len(line), 120, f"{path}:{number}")

    def test_characters(self):
        for path, text in sources():
            self.assertEqual([sign for sign in text if sign != "\n" and not " " <= sign <= "~"], [], path)

    def test_lengths_of_functions(self):
        for place, node in nodes():
            if isinstance(node, ast.FunctionDef):
                self.assertLessEqual(node.end_lineno - node.lineno + 1, 40, place)


class Words(unittest.TestCase):
    def test_imports(self):
        for place, node in nodes():
            self.assertNotIsInstance(node, ast.Import, place)
            if isinstance(node, ast.ImportFrom) and node.module not in LIBRARY:
                self.assertEqual(node.level, 0, place)
                self.assertTrue(node.module.startswith("truelevels.") or node.module == "__future__", place)

    def test_no_files_import_each_other(self):
        uses = {}
        for path, text in sources():
            found = [node.module for node in ast.walk(ast.parse(text)) if isinstance(node, ast.ImportFrom)]
            uses["truelevels." + path.stem] = [name for name in found if name.startswith("truelevels.")]
        done = set()
        while len(done) < len(uses):
            free = [name for name in uses if name not in done and all(used in done for used in uses[name])]
            self.assertNotEqual(free, [], "files import each other")
            done.update(free)

    def test_no_floats_and_no_division(self):
        for place, node in nodes():
            self.assertNotIsInstance(node, ast.Div, place)
            if isinstance(node, ast.Constant):
                self.assertNotIsInstance(node.value, (float, complex), place)

    def test_the_builtins_that_are_used(self):
        for place, node in nodes():
            if isinstance(node, ast.Name) and node.id in dir(builtins):
                self.assertIn(node.id, BUILTINS, place)

    def test_no_builtin_gets_another_meaning(self):
        for place, node in nodes():
            if isinstance(node, ast.Name) and not isinstance(node.ctx, ast.Load):
                self.assertNotIn(node.id, dir(builtins), place)
            if isinstance(node, ast.arg):
                self.assertNotIn(node.arg, dir(builtins), place)
            if isinstance(node, ast.ClassDef):
                self.assertNotIn(node.name, dir(builtins), place)

    def test_statements_that_are_not_allowed(self):
        barred = (ast.AsyncFunctionDef, ast.AsyncFor, ast.AsyncWith, ast.Await)
        for place, node in nodes():
            self.assertNotIsInstance(node, barred, place)

    def test_is_stands_beside_none_true_and_false(self):
        for place, node in nodes():
            if isinstance(node, ast.Compare) and isinstance(node.ops[0], (ast.Is, ast.IsNot)):
                if isinstance(node.comparators[0], ast.Constant):
                    self.assertIn(node.comparators[0].value, (None, True, False), place)

    def test_no_name_of_an_import_or_class_is_assigned(self):
        for path, text in sources():
            tree = ast.parse(text)
            taken = {node.name for node in ast.walk(tree) if isinstance(node, ast.ClassDef)}
            for node in ast.walk(tree):
                if isinstance(node, ast.ImportFrom):
                    taken.update(alias.name for alias in node.names)
            for node in ast.walk(tree):
                if isinstance(node, ast.Name) and isinstance(node.ctx, ast.Store):
                    self.assertNotIn(node.id, taken, f"{path.name}:{node.lineno}")
                if isinstance(node, ast.arg):
                    self.assertNotIn(node.arg, taken, f"{path.name}:{node.lineno}")


if __name__ == "__main__":
    unittest.main()
