import ast
import importlib
import inspect
import pathlib
import unittest

PACKAGE = pathlib.Path(__file__).resolve().parent.parent / "treeways"

INTERFACE = {
    "brackets": {"is_brackets": ["text"], "mirrored": ["text"]},
    "forms": {
        "depths_of": ["text"], "parents_of": ["text"], "counts_of": ["text"], "steps_of": ["text"],
        "text_of_depths": ["depths"], "text_of_parents": ["parents"], "text_of_counts": ["counts"],
        "text_of_steps": ["steps"],
    },
    "triangles": {"triangles_of": ["text"], "text_of_triangles": ["triangles"]},
    "counting": {"how_many": ["size"], "place_of": ["text"], "tree_at": ["size", "place"]},
    "codes": {
        "code_of": ["count", "ties"], "ties_of": ["count", "code"], "number_of": ["count", "ties"],
        "how_many_tied": ["count"], "tied_at": ["count", "number"],
    },
}


class Package(unittest.TestCase):
    def files(self):
        files = sorted(PACKAGE.glob("*.py"))
        self.assertTrue(files)
        return [(file.name, file.read_text(encoding="utf-8")) for file in files]

    def test_the_names_and_arguments_of_the_interface(self):
        for module, functions in INTERFACE.items():
            held = importlib.import_module("treeways." + module)
            for name, arguments in functions.items():
                self.assertEqual(list(inspect.signature(getattr(held, name)).parameters), arguments, name)

    def test_it_draws_on_nothing_but_itself(self):
        # Without Python's modules there is no clock, no chance and no file but through `open`.
        for name, held in self.files():
            for node in ast.walk(ast.parse(held)):
                self.assertNotIsInstance(node, ast.Import, name)
                if isinstance(node, ast.ImportFrom):
                    self.assertTrue(node.module.startswith("treeways."), name)
                if isinstance(node, ast.Name):
                    self.assertNotIn(node.id, ["open", "input", "print", "eval", "exec"], name)

    def test_sizes_and_signs(self):
        for name, held in self.files():
            lines = held.split("\n")
            self.assertLessEqual(len(lines), 400, name)
            for line in lines:
                self.assertLessEqual(len(line), 120, name)
                self.assertTrue(all(" " <= sign <= "~" for sign in line), name)
            for node in ast.walk(ast.parse(held)):
                if isinstance(node, ast.FunctionDef):
                    self.assertLessEqual(node.end_lineno - node.lineno, 39, node.name)


if __name__ == "__main__":
    unittest.main()
