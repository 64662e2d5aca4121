import ast
import pathlib
import unittest

import rowmend

FOLDER = pathlib.Path(rowmend.__file__).parent
FILES = sorted(FOLDER.rglob("*.py"))


class PackageTest(unittest.TestCase):
    """Nothing uses a clock, chance or files: the program draws from itself alone and opens nothing."""

    def test_the_files_are_found(self):
        names = [path.name for path in FILES]
        for name in ("__init__.py", "errors.py", "blocks.py", "comparing.py", "applying.py", "joining.py", "notes.py"):
            self.assertIn(name, names)

    def test_only_the_package_is_imported(self):
        for path in FILES:
            for node in ast.walk(ast.parse(path.read_text())):
                self.assertNotIsInstance(node, ast.Import, path)
                if isinstance(node, ast.ImportFrom):
                    self.assertEqual(node.level, 0, path)
                    self.assertEqual(node.module.split(".")[0], "rowmend", path)

    def test_no_way_out_is_named(self):
        ways = {"open", "input", "print", "eval", "exec", "compile", "__import__", "hash", "id"}
        for path in FILES:
            for node in ast.walk(ast.parse(path.read_text())):
                if isinstance(node, ast.Name):
                    self.assertNotIn(node.id, ways, path)


if __name__ == "__main__":
    unittest.main()
