"""What the files of the package must be like, as far as a test can see it."""

import ast
import os
import unittest

import oneowner

FOLDER = os.path.dirname(oneowner.__file__)
# What the document's interface lists for each file.
INTERFACE = {
    "errors": (
        "OwnerError", "TextError", "BadCharacter", "BadNumber", "Unexpected", "ProgramError", "DoubleName",
        "UnknownName", "WrongKind", "WrongCount", "Endless", "NotWhole", "Refused",
    ),
    "tokens": ("KEYWORDS", "tokens"),
    "parser": ("parse", "parse_expr"),
    "printing": ("print_program", "print_expr"),
    "typed": ("check", "typed"),
    "lower": ("lower",),
    "kinds": (
        "is_book", "is_kind", "is_data", "is_copied", "size_of", "field_place", "part_place", "is_value",
    ),
    "mir": ("is_mir", "kind_of_place", "kind_of_operand", "regions_of"),
    "meaning": ("meaning",),
    "touches": ("touches", "overlap"),
    "papers": ("best_paper", "holds"),
    "judge": ("judge", "taken"),
    "heap": ("is_allocator", "Heap"),
    "memory": ("Wrong",),
    "machine": ("run_machine",),
    "threads": ("unordered", "picked"),
    "run": ("compile_text", "run_text", "explained"),
}
# The methods that it lists for a class.
METHODS = {("heap", "Heap"): ("__init__", "take", "give", "blocks", "pieces", "top", "size")}


def texts():
    """The names and texts of the files of the package."""
    found = []
    for name in sorted(os.listdir(FOLDER)):
        if name != "__pycache__":
            with open(os.path.join(FOLDER, name), encoding="utf-8") as file:
                found.append((name, file.read()))
    return found


class FileTest(unittest.TestCase):

    def test_the_folder_holds_python_files_alone(self):
        for name, _ in texts():
            self.assertTrue(name.endswith(".py"), name)
            self.assertEqual(name, name.lower())

    def test_the_characters_and_sizes(self):
        for name, text in texts():
            rows = text.split("\n")
            self.assertLessEqual(len(rows) - 1, 399, name)
            for row in rows:
                self.assertLessEqual(len(row), 120, (name, row))
            self.assertEqual([char for char in text if not (" " <= char <= "~" or char == "\n")], [], name)
            for node in ast.walk(ast.parse(text)):
                if isinstance(node, ast.FunctionDef):
                    self.assertLessEqual(node.end_lineno - node.lineno + 1, 40, (name, node.name))

    def test_imports_come_from_the_package_by_full_names(self):
        for name, text in texts():
            for node in ast.walk(ast.parse(text)):
                self.assertNotIsInstance(node, ast.Import, name)
                if isinstance(node, ast.ImportFrom):
                    self.assertEqual(node.level, 0, name)
                    self.assertTrue(node.module.startswith("oneowner."), (name, node.module))

    def test_the_interface_is_defined_in_its_files(self):
        bodies = {name[:-3]: ast.parse(text).body for name, text in texts()}
        for module, names in INTERFACE.items():
            defined = []
            for node in bodies[module]:
                if isinstance(node, (ast.FunctionDef, ast.ClassDef)):
                    defined.append(node.name)
                if isinstance(node, ast.Assign):
                    defined.append(node.targets[0].id)
            for name in names:
                self.assertIn(name, defined, module)

    def test_the_methods_are_defined_in_their_classes(self):
        bodies = {name[:-3]: ast.parse(text).body for name, text in texts()}
        for (module, name), methods in METHODS.items():
            (found,) = [node for node in bodies[module] if isinstance(node, ast.ClassDef) and node.name == name]
            defined = [node.name for node in found.body if isinstance(node, ast.FunctionDef)]
            for method in methods:
                self.assertIn(method, defined, name)


if __name__ == "__main__":
    unittest.main()
