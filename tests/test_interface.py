"""Each function stands in its file with its parameters, and the files keep to the plain limits of form."""

import ast
import builtins
import pathlib
import re
import unittest

# What LANGUAGE.md, L8 allows, and the words that L17 bars from all files.
BUILTINS = set(
    "len range enumerate zip min max sum abs sorted reversed int str bool list tuple dict set"
    " isinstance ord repr any all divmod".split()
)
BARRED = set(
    "type typing typing_extensions enum Enum IntEnum StrEnum Flag IntFlag Generic Protocol ABC ABCMeta"
    " namedtuple NamedTuple TypedDict TYPE_CHECKING abstractmethod dataclass overload contextmanager".split()
)
PACKAGE = pathlib.Path(__file__).resolve().parent.parent / "layersteps"

INTERFACE = {
    "orders.py": {"is_order": ["value"], "is_script": ["order", "value"]},
    "commands.py": {"apply": ["order", "script"], "idle": ["order", "script"]},
    "distances.py": {
        "distance": ["order", "target"],
        "best_stretch": ["order", "target"],
        "stretch_cost": ["order", "target", "start", "end"],
        "plan": ["order", "target"],
    },
    "wishes.py": {
        "distance_to_top": ["order", "top"],
        "plan_to_top": ["order", "top"],
        "distance_to_pairs": ["order", "pairs"],
    },
    "scripts.py": {
        "normal_form": ["script"],
        "first_difference": ["layers", "first", "second"],
        "equal": ["layers", "first", "second"],
        "commute": ["layers", "one", "other"],
        "redundant_steps": ["layers", "script"],
        "sources": ["script", "result"],
    },
    "search.py": {
        "count_plans": ["order", "target"],
        "sphere_sizes": ["order"],
        "hidden_commands": ["order", "script", "position", "result"],
    },
}


def package_files():
    return [path for path in sorted(PACKAGE.iterdir()) if path.name != "__pycache__"]


class InterfaceTest(unittest.TestCase):
    def test_functions_are_defined_in_their_files(self):
        for name, functions in INTERFACE.items():
            tree = ast.parse((PACKAGE / name).read_text(encoding="utf-8"))
            defined = {
                node.name: [parameter.arg for parameter in node.args.args]
                for node in tree.body
                if isinstance(node, ast.FunctionDef)
            }
            for function, parameters in functions.items():
                self.assertEqual(defined.get(function), parameters, function)


class FormTest(unittest.TestCase):
    def test_only_python_files(self):
        names = [path.name for path in package_files()]
        self.assertIn("__init__.py", names)
        for path in package_files():
            self.assertTrue(path.is_file() and path.suffix == ".py", path.name)

    def test_characters_and_sizes(self):
        for path in package_files():
            data = path.read_bytes()
            self.assertTrue(all(code == 10 or 32 <= code <= 126 for code in data), path.name)
            lines = data.decode("ascii").split("\n")
            self.assertLessEqual(len(lines), 399, path.name)
            self.assertLessEqual(max(len(line) for line in lines), 120, path.name)

    def test_size_of_functions(self):
        for path in package_files():
            for node in ast.walk(ast.parse(path.read_text(encoding="utf-8"))):
                if isinstance(node, ast.FunctionDef):
                    self.assertLessEqual(node.end_lineno - node.lineno + 1, 40, node.name)

    def test_words(self):
        for path in package_files():
            words = set(re.findall(r"[A-Za-z0-9_]+", path.read_text(encoding="utf-8")))
            self.assertEqual(words & BARRED, set(), path.name)

    def test_builtins_are_only_read_and_only_the_allowed_ones(self):
        for path in package_files():
            for node in ast.walk(ast.parse(path.read_text(encoding="utf-8"))):
                if isinstance(node, ast.Name) and hasattr(builtins, node.id):
                    self.assertIn(node.id, BUILTINS, path.name)
                    self.assertIsInstance(node.ctx, ast.Load, (path.name, node.id))
                if isinstance(node, (ast.arg, ast.FunctionDef, ast.ClassDef)):
                    name = node.arg if isinstance(node, ast.arg) else node.name
                    self.assertFalse(hasattr(builtins, name), (path.name, name))

    def test_each_name_is_bound_once(self):
        for path in package_files():
            tree = ast.parse(path.read_text(encoding="utf-8"))
            imported = [
                alias.name for node in tree.body if isinstance(node, ast.ImportFrom) for alias in node.names
            ]
            defined = [node.name for node in tree.body if isinstance(node, ast.FunctionDef)]
            self.assertEqual(len(set(imported + defined)), len(imported + defined), path.name)
            for node in ast.walk(tree):
                if isinstance(node, ast.arg):
                    self.assertNotIn(node.arg, imported, path.name)
                if isinstance(node, ast.Name) and isinstance(node.ctx, ast.Store):
                    self.assertNotIn(node.id, imported, path.name)

    def test_imports_are_from_the_package(self):
        for path in package_files():
            for node in ast.walk(ast.parse(path.read_text(encoding="utf-8"))):
                self.assertNotIsInstance(node, ast.Import, path.name)
                if isinstance(node, ast.ImportFrom):
                    self.assertEqual(node.level, 0)
                    self.assertTrue(node.module.startswith("layersteps."), path.name)


if __name__ == "__main__":
    unittest.main()
