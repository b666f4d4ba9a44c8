"""Rules of the language that the files of the package keep, as far as a short test can see them."""

import ast
import builtins
import pathlib
import unittest

import truelevels

FOLDER = pathlib.Path(truelevels.__file__).parent
LIBRARY = {"heapq", "math", "itertools", "collections"}
BUILTINS = set(
    "len range enumerate zip min max sum abs sorted reversed int str bool bytes list tuple dict set frozenset"
    " isinstance ord repr any all divmod pow getattr hasattr setattr iter next map super type property staticmethod"
    " classmethod object float Exception ValueError TypeError KeyError IndexError LookupError ZeroDivisionError"
    " ArithmeticError OverflowError RuntimeError NotImplementedError AttributeError StopIteration"
    " NotImplemented".split()
)
METHODS = set(
    "append clear copy count endswith extend find get index insert isalnum isalpha isdigit islower isspace isupper items"
    " join keys ljust lower lstrip partition pop remove replace reverse rfind rjust rpartition rsplit rstrip setdefault"
    " split splitlines startswith strip update upper values zfill bit_length add discard".split()
)
BARRED = set(
    "register mro elements open input law version_info with_traceback add_note attrgetter breakpoint builtins compile"
    " copyright credits delattr dir eval exec exit gc globals help id importlib license locals methodcaller os quit vars"
    " sys typing enum namedtuple dataclass".split()
)


def sources():
    """The files of the package with their texts."""
    return [(path, path.read_text(encoding="utf-8")) for path in sorted(FOLDER.rglob("*.py"))]


def nodes():
    """All nodes of all files, with a name for messages."""
    for path, text in sources():
        for node in ast.walk(ast.parse(text)):
            yield f"{path.name}:{getattr(node, 'lineno', 0)}", node


class Files(unittest.TestCase):
    def test_the_folder_has_python_files_alone(self):
        for path in FOLDER.rglob("*"):
            if "__pycache__" not in path.parts and path.is_file():
                self.assertEqual(path.suffix, ".py", path)

    def test_sizes(self):
        for path, text in sources():
            lines = text.split("\n")
            self.assertLessEqual(len(lines) - 1, 399, path)
            for number, line in enumerate(lines, start=1):
                self.assertLessEqual(len(line), 120, f"{path}:{number}")

    def test_characters(self):
        for path, text in sources():
            self.assertEqual([sign for sign in text if sign != "\n" and not " " <= sign <= "~"], [], path)

    def test_lengths_of_functions(self):
        for place, node in nodes():
            if isinstance(node, ast.FunctionDef):
                self.assertLessEqual(node.end_lineno - node.lineno + 1, 40, place)


class Words(unittest.TestCase):
    def test_imports(self):
        for place, node in nodes():
            self.assertNotIsInstance(node, ast.Import, place)
            if isinstance(node, ast.ImportFrom) and node.module not in LIBRARY:
                self.assertEqual(node.level, 0, place)
                self.assertTrue(node.module.startswith("truelevels.") or node.module == "__future__", place)

    def test_no_files_import_each_other(self):
        uses = {}
        for path, text in sources():
            found = [node.module for node in ast.walk(ast.parse(text)) if isinstance(node, ast.ImportFrom)]
            uses["truelevels." + path.stem] = [name for name in found if name.startswith("truelevels.")]
        done = set()
        while len(done) < len(uses):
            free = [name for name in uses if name not in done and all(used in done for used in uses[name])]
            self.assertNotEqual(free, [], "files import each other")
            done.update(free)

    def test_no_floats_and_no_division(self):
        for place, node in nodes():
            self.assertNotIsInstance(node, ast.Div, place)
            if isinstance(node, ast.Constant):
                self.assertNotIsInstance(node.value, (float, complex), place)

    def test_the_builtins_that_are_used(self):
        for place, node in nodes():
            if isinstance(node, ast.Name) and node.id in dir(builtins):
                self.assertIn(node.id, BUILTINS, place)

    def test_no_builtin_gets_another_meaning(self):
        for place, node in nodes():
            if isinstance(node, ast.Name) and not isinstance(node.ctx, ast.Load):
                self.assertNotIn(node.id, dir(builtins), place)
            if isinstance(node, ast.arg):
                self.assertNotIn(node.arg, dir(builtins), place)
            if isinstance(node, ast.ClassDef):
                self.assertNotIn(node.name, dir(builtins), place)

    def test_statements_that_are_not_allowed(self):
        barred = (ast.AsyncFunctionDef, ast.AsyncFor, ast.AsyncWith, ast.Await)
        for place, node in nodes():
            self.assertNotIsInstance(node, barred, place)

    def test_is_stands_beside_none_true_and_false(self):
        for place, node in nodes():
            if isinstance(node, ast.Compare) and isinstance(node.ops[0], (ast.Is, ast.IsNot)):
                if isinstance(node.comparators[0], ast.Constant):
                    self.assertIn(node.comparators[0].value, (None, True, False), place)

    def test_no_name_of_an_import_or_class_is_assigned(self):
        for path, text in sources():
            tree = ast.parse(text)
            taken = {node.name for node in ast.walk(tree) if isinstance(node, ast.ClassDef)}
            for node in ast.walk(tree):
                if isinstance(node, ast.ImportFrom):
                    taken.update(alias.name for alias in node.names)
            for node in ast.walk(tree):
                if isinstance(node, ast.Name) and isinstance(node.ctx, ast.Store):
                    self.assertNotIn(node.id, taken, f"{path.name}:{node.lineno}")
                if isinstance(node, ast.arg):
                    self.assertNotIn(node.arg, taken, f"{path.name}:{node.lineno}")

    def test_names_that_are_not_used(self):
        for place, node in nodes():
            names = [getattr(node, field, None) for field in ("id", "name", "arg", "attr")]
            for name in names:
                self.assertNotIn(name, BARRED, place)
                if isinstance(name, str) and not isinstance(node, ast.FunctionDef):
                    self.assertFalse(name.startswith("__"), place)

    def test_methods_of_builtin_values(self):
        own = {node.name for _, node in nodes() if isinstance(node, ast.FunctionDef)}
        for place, node in nodes():
            if isinstance(node, ast.Call) and isinstance(node.func, ast.Attribute):
                self.assertIn(node.func.attr, METHODS | own, place)
                self.assertEqual(node.keywords, [], place)

    def test_no_percent_sign_in_a_string(self):
        for place, node in nodes():
            if isinstance(node, ast.Constant) and isinstance(node.value, str):
                self.assertNotIn(chr(37), node.value, place)

    def test_where_generator_expressions_stand(self):
        takers = {"list", "tuple", "dict", "sorted", "sum", "min", "max", "any", "all"}
        for path, text in sources():
            tree = ast.parse(text)
            taken = []
            for node in ast.walk(tree):
                if isinstance(node, ast.Call) and isinstance(node.func, ast.Name) and node.func.id in takers:
                    taken += [part for part in node.args if isinstance(part, ast.GeneratorExp)]
            for node in ast.walk(tree):
                if isinstance(node, ast.GeneratorExp):
                    self.assertIn(node, taken, f"{path.name}:{node.lineno}")
                    inner = [part for part in ast.walk(node) if isinstance(part, ast.GeneratorExp)]
                    self.assertEqual(inner, [node], f"{path.name}:{node.lineno}")

    def test_what_iterates_on_the_spot_is_not_kept(self):
        kinds = {"zip", "enumerate", "reversed", "range", "combinations"}
        for place, node in nodes():
            if isinstance(node, (ast.Assign, ast.Return)) and isinstance(node.value, ast.Call):
                function = node.value.func
                self.assertFalse(isinstance(function, ast.Name) and function.id in kinds, place)

    def test_sets_are_sorted_measured_or_asked(self):
        for path, text in sources():
            tree = ast.parse(text)
            allowed = []
            for node in ast.walk(tree):
                if isinstance(node, ast.Call) and isinstance(node.func, ast.Name) and node.func.id in ("sorted", "len"):
                    allowed += node.args
                if isinstance(node, ast.Assign) and isinstance(node.targets[0], ast.Name):
                    allowed.append(node.value)
            for node in ast.walk(tree):
                made = isinstance(node, ast.Call) and isinstance(node.func, ast.Name) and node.func.id == "set"
                if made or isinstance(node, (ast.Set, ast.SetComp)):
                    self.assertIn(node, allowed, f"{path.name}:{node.lineno}")

    def test_each_name_is_bound_once_at_module_level(self):
        for path, text in sources():
            names = []
            for node in ast.parse(text).body:
                if isinstance(node, ast.ImportFrom):
                    names += [alias.name for alias in node.names]
                elif isinstance(node, ast.Assign):
                    names += [target.id for target in node.targets]
                elif isinstance(node, (ast.FunctionDef, ast.ClassDef)):
                    names.append(node.name)
            self.assertEqual(len(set(names)), len(names), path)

    def test_imports_are_used_and_come_from_where_they_are_defined(self):
        for path, text in sources():
            tree = ast.parse(text)
            used = {node.id for node in ast.walk(tree) if isinstance(node, ast.Name)}
            for node in tree.body:
                if isinstance(node, ast.ImportFrom):
                    for alias in node.names:
                        self.assertIn(alias.name, used, path)
                        self.assertIsNone(alias.asname, path)
                if isinstance(node, ast.ImportFrom) and node.module.startswith("truelevels."):
                    source = (FOLDER / (node.module.split(".")[1] + ".py")).read_text(encoding="utf-8")
                    own = [part.name for part in ast.parse(source).body
                           if isinstance(part, (ast.FunctionDef, ast.ClassDef))]
                    own += [part.targets[0].id for part in ast.parse(source).body if isinstance(part, ast.Assign)]
                    for alias in node.names:
                        self.assertIn(alias.name, own, path)


if __name__ == "__main__":
    unittest.main()
