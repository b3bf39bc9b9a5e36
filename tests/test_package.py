"""Point 1: nothing uses a clock, chance or files; and the interface's names are there."""

import ast
import inspect
import pathlib
import unittest

from undotable import cells, deeds, formulas, joining, middle, notes, reckon, tree

PACKAGE = pathlib.Path(cells.__file__).parent
# What the package may import beside itself; none of it has a clock, chance or files.
LIBRARY = ("heapq", "math", "itertools", "collections")
OUTWARD = ("open", "input", "print", "exec", "eval", "compile", "__import__")

INTERFACE = (
    (cells, "stretch", ["one", "other"]),
    (cells, "shifted", ["cell", "rows"]),
    (formulas, "read", ["text"]),
    (formulas, "text_of", ["content"]),
    (formulas, "read_cells", ["content"]),
    (reckon, "values", ["contents"]),
    (reckon, "touched", ["contents", "changed"]),
    (reckon, "renewed", ["contents", "elder", "changed"]),
    (deeds, "uses", ["deed"]),
    (deeds, "changes", ["contents", "deed"]),
    (deeds, "done", ["contents", "deed"]),
    (tree, "Tree", ["hands"]),
    (middle, "leans", ["tree", "point"]),
    (middle, "reads", ["tree", "point"]),
    (middle, "without", ["tree", "hand", "gone", "point", "falls"]),
    (joining, "joined", ["tree", "hand", "one", "other"]),
    (notes, "written", ["tree"]),
    (notes, "read", ["text"]),
)

# Each method of a class of the interface, with its arguments behind self.
METHODS = (
    (tree.Tree, "do", ["hand", "deed"]),
    (tree.Tree, "here", ["hand"]),
    (tree.Tree, "told", ["point"]),
    (tree.Tree, "many", []),
    (tree.Tree, "table", ["point"]),
    (tree.Tree, "worths", ["point"]),
    (tree.Tree, "trail", ["point"]),
    (tree.Tree, "road", ["one", "other"]),
    (tree.Tree, "go", ["hand", "point"]),
    (tree.Tree, "stepped", ["contents", "step"]),
)


class Package(unittest.TestCase):
    def trees(self):
        files = sorted(PACKAGE.rglob("*.py"))
        self.assertTrue(files)
        return [(file.name, ast.walk(ast.parse(file.read_text()))) for file in files]

    def test_it_imports_only_itself_and_a_little_of_the_library(self):
        for name, nodes in self.trees():
            for node in nodes:
                with self.subTest(name):
                    self.assertNotIsInstance(node, ast.Import)
                    if isinstance(node, ast.ImportFrom):
                        self.assertEqual(node.level, 0)
                        self.assertIn(node.module.split(".")[0], ("undotable",) + LIBRARY)

    def test_it_calls_nothing_that_reaches_outward(self):
        for name, nodes in self.trees():
            called = [node.id for node in nodes if isinstance(node, ast.Name)]
            with self.subTest(name):
                self.assertEqual([word for word in called if word in OUTWARD], [])

    def test_the_interface(self):
        for module, name, arguments in INTERFACE:
            with self.subTest(name):
                function = getattr(module, name)
                self.assertEqual(function.__module__, module.__name__)
                self.assertEqual(list(inspect.signature(function).parameters), arguments)

    def test_the_methods_of_the_interface_stand_in_their_classes(self):
        for kind, name, arguments in METHODS:
            with self.subTest(name):
                method = vars(kind)[name]
                self.assertEqual(list(inspect.signature(method).parameters), ["self"] + arguments)


if __name__ == "__main__":
    unittest.main()
