"""What the files of the package must be like, as far as a test can see it."""

import ast
import os
import unittest

import oneowner

FOLDER = os.path.dirname(oneowner.__file__)
# What the document's interface lists for each file.
INTERFACE = {
    "errors": (
        "OwnerError", "TextError", "BadCharacter", "BadNumber", "Unexpected", "ProgramError", "DoubleName",
        "UnknownName", "WrongKind", "WrongCount", "Endless", "NotWhole", "Refused",
    ),
    "tokens": ("KEYWORDS", "tokens"),
    "parser": ("parse", "parse_expr"),
    "printing": ("print_program", "print_expr"),
    "typed": ("check", "typed"),
    "lower": ("lower",),
    "kinds": (
        "is_book", "is_kind", "is_data", "is_copied", "size_of", "field_place", "part_place", "is_value",
    ),
    "mir": ("is_mir", "kind_of_place", "kind_of_operand", "regions_of"),
    "meaning": ("meaning",),
    "touches": ("touches", "overlap"),
    "papers": ("best_paper", "holds"),
    "judge": ("judge", "taken"),
    "heap": ("is_allocator", "Heap"),
    "memory": ("Wrong",),
    "machine": ("run_machine",),
    "threads": ("unordered", "picked"),
    "run": ("compile_text", "run_text", "explained"),
}
# What is iterated on the spot, and what may do so beside a for and a comprehension (rule L23).
PASSING = ("range", "zip", "enumerate", "reversed")
VIEWS = ("items", "keys", "values")
ITERATING = ("list", "tuple", "dict", "sorted", "sum", "any", "all", "enumerate", "zip", "min", "max")
# The methods that it lists for a class.
METHODS = {("heap", "Heap"): ("__init__", "take", "give", "blocks", "pieces", "top", "size")}


def texts():
    """The names and texts of the files of the package."""
    found = []
    for name in sorted(os.listdir(FOLDER)):
        if name != "__pycache__":
            with open(os.path.join(FOLDER, name), encoding="utf-8") as file:
                found.append((name, file.read()))
    return found


def is_passing(node):
    """True if a node of a tree makes what is iterated on the spot."""
    if not isinstance(node, ast.Call):
        return False
    if isinstance(node.func, ast.Attribute):
        return node.func.attr in VIEWS
    return isinstance(node.func, ast.Name) and node.func.id in PASSING


def iterated_by(node):
    """What a node of a tree iterates itself, if it is one that does so."""
    if isinstance(node, (ast.For, ast.comprehension)):
        return [node.iter]
    if isinstance(node, ast.Call) and isinstance(node.func, ast.Name):
        if node.func.id in ITERATING:
            return node.args[:1]
    return []


def kept_in(text):
    """What is not iterated on the spot in the text of a file, though it must be."""
    nodes = list(ast.walk(ast.parse(text)))
    iterated = [within for node in nodes for within in iterated_by(node)]
    return [ast.unparse(node) for node in nodes if is_passing(node) and node not in iterated]


class FileTest(unittest.TestCase):

    def test_the_folder_holds_python_files_alone(self):
        for name, _ in texts():
            self.assertTrue(name.endswith(".py"), name)
            self.assertEqual(name, name.lower())

    def test_the_characters_and_sizes(self):
        for name, text in texts():
            rows = text.split("\n")
            self.assertLessEqual(len(rows) - 1, 399, name)
            for row in rows:
                self.assertLessEqual(len(row), 120, (name, row))
            self.assertEqual([char for char in text if not (" " <= char <= "~" or char == "\n")], [], name)
            for node in ast.walk(ast.parse(text)):
                if isinstance(node, ast.FunctionDef):
                    self.assertLessEqual(node.end_lineno - node.lineno + 1, 40, (name, node.name))

    def test_imports_come_from_the_package_by_full_names(self):
        for name, text in texts():
            for node in ast.walk(ast.parse(text)):
                self.assertNotIsInstance(node, ast.Import, name)
                if isinstance(node, ast.ImportFrom):
                    self.assertEqual(node.level, 0, name)
                    self.assertTrue(node.module.startswith("oneowner."), (name, node.module))

    def test_ranges_and_their_like_are_iterated_on_the_spot(self):
        for text in ("f(range(3))", "xs = zip(a, b)", "g.f(d.items())", "list(f(reversed(xs)))", "zip(a, range(3))"):
            self.assertNotEqual(kept_in(text), [], text)
        for text in ("f(list(range(3)))", "[x for x in zip(a, b)]", "for k in d.items(): f(k)", "min(d.values())"):
            self.assertEqual(kept_in(text), [], text)
        for name, text in texts():
            self.assertEqual(kept_in(text), [], name)

    def test_the_interface_is_defined_in_its_files(self):
        bodies = {name[:-3]: ast.parse(text).body for name, text in texts()}
        for module, names in INTERFACE.items():
            defined = []
            for node in bodies[module]:
                if isinstance(node, (ast.FunctionDef, ast.ClassDef)):
                    defined.append(node.name)
                if isinstance(node, ast.Assign):
                    defined.append(node.targets[0].id)
            for name in names:
                self.assertIn(name, defined, module)

    def test_the_methods_are_defined_in_their_classes(self):
        bodies = {name[:-3]: ast.parse(text).body for name, text in texts()}
        for (module, name), methods in METHODS.items():
            (found,) = [node for node in bodies[module] if isinstance(node, ast.ClassDef) and node.name == name]
            defined = [node.name for node in found.body if isinstance(node, ast.FunctionDef)]
            for method in methods:
                self.assertIn(method, defined, name)


if __name__ == "__main__":
    unittest.main()
