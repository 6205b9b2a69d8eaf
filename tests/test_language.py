"""What of the rules for the package's files can be counted: characters, sizes, imports."""

import ast
import pathlib
import unittest

import polyarith

FOLDER = pathlib.Path(polyarith.__file__).parent
FILES = sorted(path for path in FOLDER.rglob("*") if "__pycache__" not in path.parts)
FROM_OUTSIDE = {"math": {"gcd"}}


class Language(unittest.TestCase):
    def test_the_folder_holds_plain_python_files_only(self):
        self.assertIn(FOLDER / "__init__.py", FILES)
        for path in FILES:
            self.assertRegex(path.name, r"\A[a-z_]+\.py\Z")

    def test_characters(self):
        for path in FILES:
            data = path.read_bytes()
            self.assertTrue(all(byte == 10 or 32 <= byte <= 126 for byte in data), path)

    def test_sizes(self):
        for path in FILES:
            text = path.read_text("utf-8")
            lines = text.split("\n")
            self.assertLess(len(lines), 400, path)
            self.assertLessEqual(max(len(line) for line in lines), 120, path)
            for node in ast.walk(ast.parse(text)):
                if isinstance(node, ast.FunctionDef):
                    self.assertLessEqual(node.end_lineno - node.lineno + 1, 40, (path, node.name))

    def test_imports(self):
        for path in FILES:
            for node in ast.walk(ast.parse(path.read_text("utf-8"))):
                self.assertNotIsInstance(node, ast.Import, path)
                if isinstance(node, ast.ImportFrom):
                    self.check_import(node, path)

    def check_import(self, node, path):
        self.assertEqual(node.level, 0, path)
        if not node.module.startswith("polyarith."):
            names = {name.name for name in node.names}
            self.assertLessEqual(names, FROM_OUTSIDE.get(node.module, set()), (path, node.module))


if __name__ == "__main__":
    unittest.main()
