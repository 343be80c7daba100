"""The rules of the language that can be counted: files, sizes, characters, imports and barred names."""

import ast
import pathlib
import re
import unittest

FOLDER = pathlib.Path(__file__).resolve().parent.parent / "soonsettled"
BARRED = {
    "register", "mro", "elements", "open", "input", "law", "version_info", "with_traceback", "add_note",
    "typing", "enum", "dataclass", "namedtuple", "eval", "exec", "globals", "locals", "vars", "dir", "id",
}
BARRED_NODES = (
    ast.Global, ast.AsyncFunctionDef, ast.Await, ast.AsyncFor, ast.AsyncWith, ast.TryStar, ast.Div, ast.MatMult,
)


class LanguageTest(unittest.TestCase):

    def setUp(self):
        self.files = sorted(path for path in FOLDER.rglob("*") if path.is_file() and "__pycache__" not in path.parts)

    def trees(self):
        return [(path, ast.parse(path.read_text(encoding="ascii"))) for path in self.files]

    def test_files(self):
        self.assertIn(FOLDER / "__init__.py", self.files)
        for path in self.files:
            self.assertRegex(path.name, r"\A[a-z0-9_]+\.py\Z")

    def test_lines_and_characters(self):
        for path in self.files:
            text = path.read_text(encoding="ascii")
            self.assertRegex(text, r"\A[ -~\n]*\Z", path)
            lines = text.split("\n")
            self.assertLessEqual(len(lines) - 1, 399, path)
            self.assertLessEqual(max(map(len, lines)), 120, path)

    def test_functions_have_at_most_forty_lines(self):
        for path, tree in self.trees():
            for node in ast.walk(tree):
                if isinstance(node, ast.FunctionDef):
                    self.assertLessEqual(node.end_lineno - node.lineno + 1, 40, (path, node.name))

    def test_imports_are_of_the_package(self):
        for path, tree in self.trees():
            for node in ast.walk(tree):
                self.assertNotIsInstance(node, ast.Import, path)
                if isinstance(node, ast.ImportFrom):
                    self.assertEqual(node.level, 0)
                    self.assertTrue(
                        node.module.startswith("soonsettled.")
                        or node.module in ("heapq", "math", "itertools", "collections", "__future__"), path)
                    self.assertNotIn("*", [alias.name for alias in node.names])

    def test_barred_names_and_statements(self):
        for path, tree in self.trees():
            for node in ast.walk(tree):
                self.assertNotIsInstance(node, BARRED_NODES, path)
                for field in ("id", "arg", "attr", "name"):
                    self.assertNotIn(getattr(node, field, None), BARRED, path)
                if isinstance(node, ast.Constant):
                    self.assertNotIsInstance(node.value, (float, complex), path)
                    if isinstance(node.value, str):
                        self.assertNotIn("%", node.value, path)

    def test_definitions_stand_where_the_interface_lists_them(self):
        listed = {
            "errors": ["SettleError", "TextError", "NotPossible"],
            "documents": ["events_of", "document_of", "read_events", "print_events"],
            "schemas": ["parse_schema", "print_schema"],
            "conditions": ["parse_condition", "print_condition"],
            "meaning": ["types_of", "conforms", "holding"],
            "life": ["living", "least_sizes"],
            "beginnings": ["possible", "next_events", "whole"],
            "settling": ["settled", "least_end", "forced", "end_with"],
            "stream": ["Stream"],
            "consequences": ["follows", "satisfiable"],
        }
        for name, words in listed.items():
            text = (FOLDER / f"{name}.py").read_text(encoding="ascii")
            for word in words:
                self.assertTrue(re.search(rf"^(def|class) {word}[(:]", text, re.MULTILINE), word)


if __name__ == "__main__":
    unittest.main()
