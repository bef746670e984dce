import ast
import pathlib
import unittest

PACKAGE = pathlib.Path(__file__).resolve().parent.parent / "treeways"


class Package(unittest.TestCase):
    def test_it_draws_on_nothing_but_itself(self):
        # Without Python's modules there is no clock, no chance and no file but through `open`.
        files = sorted(PACKAGE.glob("*.py"))
        self.assertTrue(files)
        for file in files:
            for node in ast.walk(ast.parse(file.read_text(encoding="utf-8"))):
                self.assertNotIsInstance(node, ast.Import, file.name)
                if isinstance(node, ast.ImportFrom):
                    self.assertTrue(node.module.startswith("treeways."), file.name)
                if isinstance(node, ast.Name):
                    self.assertNotIn(node.id, ["open", "input", "print", "eval", "exec"], file.name)


if __name__ == "__main__":
    unittest.main()
