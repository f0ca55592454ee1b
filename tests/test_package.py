"""The interface as it is written, and what the package is made of."""

import ast
import importlib
import inspect
import pathlib
import unittest

FOLDER = pathlib.Path(__file__).resolve().parent.parent / "plainway"

FUNCTIONS = {
    "plainway.signs": {"name_of": ["part"], "written": ["name"]},
    "plainway.steps": {"steps_of": ["path"]},
    "plainway.walking": {"walk": ["start", "path", "shares"]},
    "plainway.plain": {
        "plain": ["path", "shares"],
        "joined": ["one", "other", "shares"],
        "same": ["one", "other", "shares"],
    },
    "plainway.telling": {"way": ["start", "goal"], "by_share": ["place", "shares"]},
}
CLASSES = {
    "plainway.errors": ("PathError", "BadEscape", "NoShare", "Ring"),
    "plainway.shares": ("Shares",),
}
METHODS = {
    "__init__": ["self", "table"],
    "names": ["self"],
    "place": ["self", "name"],
}


class TheInterface(unittest.TestCase):
    def test_functions_stand_in_their_files_with_their_arguments(self):
        for module, table in FUNCTIONS.items():
            for name, arguments in table.items():
                with self.subTest(function=name):
                    function = getattr(importlib.import_module(module), name)
                    self.assertTrue(inspect.isfunction(function))
                    self.assertEqual(function.__module__, module)
                    self.assertEqual(list(inspect.signature(function).parameters), arguments)

    def test_classes_stand_in_their_files(self):
        for module, names in CLASSES.items():
            for name in names:
                with self.subTest(name=name):
                    found = getattr(importlib.import_module(module), name)
                    self.assertTrue(inspect.isclass(found))
                    self.assertEqual(found.__module__, module)

    def test_the_methods_of_shares_stand_in_that_class_itself(self):
        own = vars(importlib.import_module("plainway.shares").Shares)
        for name, arguments in METHODS.items():
            with self.subTest(method=name):
                self.assertTrue(inspect.isfunction(own.get(name)))
                self.assertEqual(list(inspect.signature(own[name]).parameters), arguments)


class TheFiles(unittest.TestCase):
    def sources(self):
        return [path for path in sorted(FOLDER.rglob("*")) if path.is_file() and "__pycache__" not in path.parts]

    def test_the_folder_holds_nothing_but_python_files(self):
        self.assertTrue(self.sources())
        for path in self.sources():
            self.assertEqual(path.suffix, ".py")

    def test_no_clock_no_chance_no_files(self):
        # Without a foreign import and without these builtins there is no way to any of them.
        barred = {"open", "input", "print", "exec", "eval", "compile", "__import__", "id", "hash", "globals"}
        for path in self.sources():
            for node in ast.walk(ast.parse(path.read_text(encoding="ascii"))):
                with self.subTest(path=path.name, line=getattr(node, "lineno", 0)):
                    self.assertNotIsInstance(node, ast.Import)
                    if isinstance(node, ast.ImportFrom):
                        self.assertEqual((node.level, node.module.split(".")[0]), (0, "plainway"))
                    if isinstance(node, ast.Name):
                        self.assertNotIn(node.id, barred)

    def test_sizes_and_signs_of_the_files(self):
        for path in self.sources():
            lines = path.read_text(encoding="ascii").split("\n")
            self.assertLess(len(lines), 400)
            for line in lines:
                self.assertLessEqual(len(line), 120)
                self.assertTrue(all(" " <= sign <= "~" for sign in line))


if __name__ == "__main__":
    unittest.main()
