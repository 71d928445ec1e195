"""Each function stands in its file with its parameters, and the files keep to the plain limits of form."""

import ast
import pathlib
import unittest

PACKAGE = pathlib.Path(__file__).resolve().parent.parent / "layersteps"

INTERFACE = {
    "orders.py": {"is_order": ["value"], "is_script": ["order", "value"]},
    "commands.py": {"apply": ["order", "script"], "idle": ["order", "script"]},
    "distances.py": {
        "distance": ["order", "target"],
        "best_stretch": ["order", "target"],
        "stretch_cost": ["order", "target", "start", "end"],
        "plan": ["order", "target"],
    },
}


def package_files():
    return [path for path in sorted(PACKAGE.iterdir()) if path.name != "__pycache__"]


class InterfaceTest(unittest.TestCase):
    def test_functions_are_defined_in_their_files(self):
        for name, functions in INTERFACE.items():
            tree = ast.parse((PACKAGE / name).read_text(encoding="utf-8"))
            defined = {
                node.name: [parameter.arg for parameter in node.args.args]
                for node in tree.body
                if isinstance(node, ast.FunctionDef)
            }
            for function, parameters in functions.items():
                self.assertEqual(defined.get(function), parameters, function)


class FormTest(unittest.TestCase):
    def test_only_python_files(self):
        names = [path.name for path in package_files()]
        self.assertIn("__init__.py", names)
        for path in package_files():
            self.assertTrue(path.is_file() and path.suffix == ".py", path.name)

    def test_characters_and_sizes(self):
        for path in package_files():
            data = path.read_bytes()
            self.assertTrue(all(code == 10 or 32 <= code <= 126 for code in data), path.name)
            lines = data.decode("ascii").split("\n")
            self.assertLessEqual(len(lines), 399, path.name)
            self.assertLessEqual(max(len(line) for line in lines), 120, path.name)

    def test_size_of_functions(self):
        for path in package_files():
            for node in ast.walk(ast.parse(path.read_text(encoding="utf-8"))):
                if isinstance(node, ast.FunctionDef):
                    self.assertLessEqual(node.end_lineno - node.lineno + 1, 40, node.name)

    def test_imports_are_from_the_package(self):
        for path in package_files():
            for node in ast.walk(ast.parse(path.read_text(encoding="utf-8"))):
                self.assertNotIsInstance(node, ast.Import, path.name)
                if isinstance(node, ast.ImportFrom):
                    self.assertEqual(node.level, 0)
                    self.assertTrue(node.module.startswith("layersteps."), path.name)


if __name__ == "__main__":
    unittest.main()
