"""The rules for the package's files that can be told from the text alone."""

import ast
import pathlib
import re
import unittest

PACKAGE = pathlib.Path(__file__).resolve().parent.parent / "acquit"
FILES = sorted(path for path in PACKAGE.rglob("*") if path.is_file() and "__pycache__" not in path.parts)
TEXTS = {str(path.relative_to(PACKAGE)): path.read_text(encoding="utf-8") for path in FILES}
LIBRARY = ("heapq", "math", "itertools", "collections", "__future__")
BARRED = (ast.AsyncFunctionDef, ast.AsyncFor, ast.AsyncWith, ast.Await, ast.Import, ast.Div)
TOP_LEVEL = (ast.ImportFrom, ast.FunctionDef, ast.ClassDef, ast.Assign)


def nodes(kind):
    """Pairs (file, node) of all nodes of a kind in the package but for __main__.py."""
    texts = [(name, text) for name, text in TEXTS.items() if name != "__main__.py"]
    return [(name, node) for name, text in texts for node in ast.walk(ast.parse(text)) if isinstance(node, kind)]


def is_docstring(node):
    return isinstance(node, ast.Expr) and isinstance(node.value, ast.Constant) and isinstance(node.value.value, str)


class RulesTest(unittest.TestCase):
    def test_files_have_plain_lower_case_names(self):
        self.assertIn("__init__.py", TEXTS)
        for name in TEXTS:
            self.assertRegex(name, r"\A([a-z0-9_]+/)*[a-z0-9_]+\.py\Z")

    def test_characters_and_sizes(self):
        for name, text in TEXTS.items():
            self.assertIsNone(re.search(r"[^ -~\n]", text), name)
            self.assertLessEqual(len(text.splitlines()), 399, name)
            self.assertLessEqual(max(map(len, text.splitlines()), default=0), 120, name)

    def test_functions_have_at_most_40_lines(self):
        for name, node in nodes(ast.FunctionDef):
            self.assertLessEqual(node.end_lineno - node.lineno + 1, 40, (name, node.name))

    def test_imports_come_from_the_package_by_full_names(self):
        for name, node in nodes(ast.ImportFrom):
            self.assertEqual(node.level, 0, name)
            self.assertIn(node.module.split(".")[0], ("acquit", *LIBRARY), name)
            self.assertNotIn("*", [alias.name for alias in node.names], name)

    def test_barred_statements_and_values(self):
        self.assertEqual(nodes(BARRED), [])
        for name, node in nodes(ast.Constant):
            self.assertNotIsInstance(node.value, (float, complex), (name, node.value))

    def test_module_level_holds_definitions_only(self):
        for name, module in nodes(ast.Module):
            for node in module.body:
                self.assertTrue(isinstance(node, TOP_LEVEL) or is_docstring(node), (name, ast.dump(node)))


if __name__ == "__main__":
    unittest.main()
