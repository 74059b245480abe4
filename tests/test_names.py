"""The names in the files of the package (rule L12 of the language)."""

import ast
import pathlib
import unittest

PACKAGE = pathlib.Path(__file__).resolve().parent.parent / "sillwatch"


def underscored_classes(source):
    """Return the names of all classes in a source, also in functions and classes, that begin with no letter."""
    classes = [node for node in ast.walk(ast.parse(source)) if isinstance(node, ast.ClassDef)]
    return [node.name for node in classes if not node.name[0].isalpha()]


class TestUnderscoredClasses(unittest.TestCase):
    def test_finds_a_class_with_an_underscore(self):
        self.assertEqual(underscored_classes("class _Reader:\n    pass\n"), ["_Reader"])

    def test_finds_one_within_a_function_or_a_class(self):
        source = "def made():\n    class _Inner:\n        pass\n\n\nclass Outer:\n    class __Hidden:\n        pass\n"
        self.assertEqual(sorted(underscored_classes(source)), ["_Inner", "__Hidden"])

    def test_lets_other_names_be(self):
        source = "_LIMIT = 4\n\n\nclass Plain_:\n    def _low(self):\n        self._rows = []\n\n\ndef _open():\n    pass\n"
        self.assertEqual(underscored_classes(source), [])


class TestPackage(unittest.TestCase):
    def test_there_are_files_with_classes(self):
        files = [path for path in PACKAGE.rglob("*.py") if "class " in path.read_text()]
        self.assertGreater(len(files), 20)

    def test_no_class_begins_with_an_underscore(self):
        for path in sorted(PACKAGE.rglob("*.py")):
            with self.subTest(path=str(path.relative_to(PACKAGE))):
                self.assertEqual(underscored_classes(path.read_text()), [])


if __name__ == "__main__":
    unittest.main()
