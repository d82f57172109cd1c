"""Where the interface's names stand, and what the package's folder holds."""

import ast
import pathlib
import unittest

PACKAGE = pathlib.Path(__file__).resolve().parent.parent / "stalestack"

INTERFACE = {
    "errors.py": ("PileError", "BadPile", "BadDeed", "BadRule", "NoHand"),
    "deeds.py": ("serial",),
}


def defined_in(path):
    tree = ast.parse(path.read_text(encoding="ascii"))
    return [part.name for part in tree.body if isinstance(part, (ast.ClassDef, ast.FunctionDef))]


class LayoutTest(unittest.TestCase):
    def test_each_name_is_defined_in_its_own_file(self):
        for file, names in INTERFACE.items():
            for name in names:
                with self.subTest(file=file, name=name):
                    self.assertEqual(defined_in(PACKAGE / file).count(name), 1)

    def test_arguments_have_the_names_of_the_interface(self):
        tree = ast.parse((PACKAGE / "deeds.py").read_text(encoding="ascii"))
        found = [part for part in tree.body if getattr(part, "name", "") == "serial"]
        self.assertEqual([arg.arg for arg in found[0].args.args], ["values", "deeds"])

    def test_the_package_holds_python_files_alone(self):
        for path in PACKAGE.iterdir():
            if path.name != "__pycache__":
                with self.subTest(path=path.name):
                    self.assertTrue(path.is_file() and path.suffix == ".py")
                    self.assertFalse(path.name.startswith("test"))
        self.assertTrue((PACKAGE / "__init__.py").is_file())

    def test_sources_are_plain(self):
        for path in PACKAGE.glob("*.py"):
            lines = path.read_text(encoding="ascii").split("\n")
            with self.subTest(path=path.name):
                self.assertLessEqual(len(lines), 399)
                self.assertLessEqual(max(map(len, lines)), 120)
                self.assertTrue(all(" " <= c <= "~" for line in lines for c in line))


if __name__ == "__main__":
    unittest.main()
