"""Some of the rules for the files of the package that can be seen in their text."""

import ast
import pathlib
import unittest

FOLDER = pathlib.Path(__file__).resolve().parent.parent / "keyfocus"
LONGEST_FILE = 399
LONGEST_LINE = 120
LONGEST_FUNCTION = 40


def sources():
    """Pairs of the name and the text of each file of the package."""
    return [(path.name, path.read_text(encoding="utf-8")) for path in sorted(FOLDER.glob("*.py"))]


class LanguageTest(unittest.TestCase):
    def test_the_folder_contains_source_files_only(self):
        others = [path.name for path in FOLDER.iterdir() if path.suffix != ".py"]
        self.assertEqual([], [name for name in others if name != "__pycache__"])
        self.assertTrue((FOLDER / "__init__.py").is_file())

    def test_characters(self):
        for name, text in sources():
            wrong = [character for character in text if character != "\n" and not " " <= character <= "~"]
            self.assertEqual([], wrong, name)

    def test_sizes(self):
        for name, text in sources():
            lines = text.split("\n")
            self.assertLessEqual(len(lines), LONGEST_FILE, name)
            self.assertLessEqual(max(len(line) for line in lines), LONGEST_LINE, name)
            for node in ast.walk(ast.parse(text)):
                if isinstance(node, ast.FunctionDef):
                    self.assertLessEqual(node.end_lineno - node.lineno + 1, LONGEST_FUNCTION, node.name)

    def test_imports_come_from_the_file_that_defines_the_name(self):
        for name, text in sources():
            for node in ast.walk(ast.parse(text)):
                self.assertNotIsInstance(node, ast.Import, name)
                if isinstance(node, ast.ImportFrom):
                    self.assert_defined(node, name)

    def assert_defined(self, node, name):
        package, _, module = node.module.partition(".")
        self.assertEqual(("keyfocus", 0), (package, node.level), name)
        tree = ast.parse((FOLDER / (module + ".py")).read_text(encoding="utf-8"))
        defined = []
        for statement in tree.body:
            if isinstance(statement, (ast.FunctionDef, ast.ClassDef)):
                defined.append(statement.name)
            elif isinstance(statement, ast.Assign):
                defined.extend(target.id for target in statement.targets)
        for alias in node.names:
            self.assertIn(alias.name, defined, name)


if __name__ == "__main__":
    unittest.main()
