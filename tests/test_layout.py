"""Where the interface's names stand, and what the package's folder holds."""

import ast
import pathlib
import unittest

PACKAGE = pathlib.Path(__file__).resolve().parent.parent / "stalestack"

FUNCTIONS = {
    "deeds.py": {"serial": ["values", "deeds"]},
    "weaving.py": {
        "played": ["values", "programs", "rule", "weaving"],
        "whole": ["values", "programs", "rule", "weaving"],
    },
    "staleness.py": {
        "stale": ["values", "programs", "rule"],
        "safe_counts": ["values", "programs"],
        "least_marks": ["values", "programs"],
    },
}

CLASSES = {
    "errors.py": {
        "PileError": {},
        "BadPile": {},
        "BadDeed": {},
        "BadRule": {},
        "NoHand": {},
    },
    "machine.py": {
        "Machine": {
            "__init__": ["self", "values", "programs", "rule"],
            "turn": ["self", "hand"],
            "answers": ["self", "hand"],
            "marked": ["self", "hand"],
            "order": ["self"],
            "top_now": ["self"],
            "nexts": ["self"],
            "free": ["self"],
            "pile": ["self"],
            "pile_values": ["self"],
            "is_stale": ["self"],
            "is_done": ["self"],
        },
    },
}


def defined_in(body, kind):
    """The functions or classes that are defined in the body, by their names."""
    return {part.name: part for part in body if isinstance(part, kind)}


def arguments(function):
    return [arg.arg for arg in function.args.args]


def body_of(file):
    return ast.parse((PACKAGE / file).read_text(encoding="ascii")).body


class LayoutTest(unittest.TestCase):
    def test_each_function_is_defined_in_its_own_file_with_its_arguments(self):
        for file, functions in FUNCTIONS.items():
            found = defined_in(body_of(file), ast.FunctionDef)
            for name, names in functions.items():
                with self.subTest(file=file, name=name):
                    self.assertEqual(arguments(found[name]), names)

    def test_each_class_is_defined_in_its_own_file_with_its_methods(self):
        for file, classes in CLASSES.items():
            found = defined_in(body_of(file), ast.ClassDef)
            for name, methods in classes.items():
                with self.subTest(file=file, name=name):
                    own = defined_in(found[name].body, ast.FunctionDef)
                    self.assertEqual({method: arguments(own[method]) for method in methods}, methods)

    def test_the_package_holds_python_files_alone(self):
        for path in PACKAGE.iterdir():
            if path.name != "__pycache__":
                with self.subTest(path=path.name):
                    self.assertTrue(path.is_file() and path.suffix == ".py")
                    self.assertFalse(path.name.startswith("test"))
        self.assertTrue((PACKAGE / "__init__.py").is_file())

    def test_sources_are_plain(self):
        for path in PACKAGE.glob("*.py"):
            lines = path.read_text(encoding="ascii").split("\n")
            with self.subTest(path=path.name):
                self.assertLessEqual(len(lines), 399)
                self.assertLessEqual(max(map(len, lines)), 120)
                self.assertTrue(all(" " <= c <= "~" for line in lines for c in line))


if __name__ == "__main__":
    unittest.main()
