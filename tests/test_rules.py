"""The rules for the package's files that can be told from the text alone."""

import ast
import builtins
import pathlib
import re
import unittest

PACKAGE = pathlib.Path(__file__).resolve().parent.parent / "acquit"
FILES = sorted(path for path in PACKAGE.rglob("*") if path.is_file() and "__pycache__" not in path.parts)
TEXTS = {str(path.relative_to(PACKAGE)): path.read_text(encoding="utf-8") for path in FILES}
LIBRARY = ("heapq", "math", "itertools", "collections", "__future__")
BARRED = (ast.AsyncFunctionDef, ast.AsyncFor, ast.AsyncWith, ast.Await, ast.Import, ast.Div)
TOP_LEVEL = (ast.ImportFrom, ast.FunctionDef, ast.ClassDef, ast.Assign)
NEVER = ("register", "mro", "elements", "open", "input", "law", "version_info", "with_traceback", "add_note")
NO_VARIABLES = ("attrgetter", "builtins", "gc", "importlib", "methodcaller", "os", "sys")
NO_MEMBERS = tuple(
    name for value in ("", 0, [], {}, set(), b"", ()) for name in dir(value) if not name.startswith("__")
)
MEMBERS = ("count", "index", "title", "find", "get", "join", "lower", "upper", "split", "strip", "copy", "add")


def nodes(kind):
    """Pairs (file, node) of all nodes of a kind in the package but for __main__.py."""
    texts = [(name, text) for name, text in TEXTS.items() if name != "__main__.py"]
    return [(name, node) for name, text in texts for node in ast.walk(ast.parse(text)) if isinstance(node, kind)]


def is_docstring(node):
    return isinstance(node, ast.Expr) and isinstance(node.value, ast.Constant) and isinstance(node.value.value, str)


class RulesTest(unittest.TestCase):
    def test_files_have_plain_lower_case_names(self):
        self.assertIn("__init__.py", TEXTS)
        for name in TEXTS:
            self.assertRegex(name, r"\A([a-z0-9_]+/)*[a-z0-9_]+\.py\Z")

    def test_characters_and_sizes(self):
        for name, text in TEXTS.items():
            self.assertIsNone(re.search(r"[^ -~\n]", text), name)
            self.assertLessEqual(len(text.splitlines()), 399, name)
            self.assertLessEqual(max(map(len, text.splitlines()), default=0), 120, name)

    def test_functions_have_at_most_40_lines(self):
        for name, node in nodes(ast.FunctionDef):
            self.assertLessEqual(node.end_lineno - node.lineno + 1, 40, (name, node.name))

    def test_imports_come_from_the_package_by_full_names(self):
        for name, node in nodes(ast.ImportFrom):
            self.assertEqual(node.level, 0, name)
            self.assertIn(node.module.split(".")[0], ("acquit", *LIBRARY), name)
            self.assertNotIn("*", [alias.name for alias in node.names], name)

    def test_barred_statements_and_values(self):
        self.assertEqual(nodes(BARRED), [])
        for name, node in nodes(ast.Constant):
            self.assertNotIsInstance(node.value, (float, complex), (name, node.value))

    def test_module_level_holds_definitions_only(self):
        for name, module in nodes(ast.Module):
            for node in module.body:
                self.assertTrue(isinstance(node, TOP_LEVEL) or is_docstring(node), (name, ast.dump(node)))

    def test_names_are_not_those_of_python(self):
        barred = (*dir(builtins), *NEVER, *NO_VARIABLES)
        for name, bound in bound_names():
            self.assertNotIn(bound, barred, name)

    def test_methods_and_attributes_have_names_of_their_own(self):
        methods = {node.name for _, cls in nodes(ast.ClassDef) for node in cls.body if isinstance(node, ast.FunctionDef)}
        stored = {node.attr for _, node in nodes(ast.Attribute) if isinstance(node.ctx, ast.Store)}
        self.assertEqual(methods & stored, set())
        self.assertEqual([name for name in methods | stored if name in NEVER], [])
        self.assertEqual([name for name in methods | stored if name in NO_MEMBERS and name not in MEMBERS], [])

    def test_captured_names_are_used_in_their_case_alone(self):
        for name, function in nodes(ast.FunctionDef):
            cases = [node for node in ast.walk(function) if isinstance(node, ast.match_case)]
            captured = {part.name for case in cases for part in ast.walk(case.pattern) if isinstance(part, ast.MatchAs)}
            arguments = {part.arg for part in ast.walk(function) if isinstance(part, ast.arg)}
            self.assertEqual(captured & arguments, set(), (name, function.name))
            told = [(id(part), part) for case in cases for part in ast.walk(case) if isinstance(part, ast.Name)]
            inside = {key for key, part in told if isinstance(part.ctx, ast.Load)}
            for part in ast.walk(function):
                if isinstance(part, ast.Name) and part.id in captured:
                    self.assertIn(id(part), inside, (name, function.name, part.id))

    def test_no_two_files_import_from_each_other(self):
        needs = {name: {node.module for file, node in nodes(ast.ImportFrom) if file == name} for name in TEXTS}
        done = set()
        while len(done) < len(TEXTS):
            ready = [name for name in TEXTS if name not in done and needs[name] <= done_modules(done)]
            self.assertNotEqual(ready, [], "a circle")
            done.update(ready)


def done_modules(names):
    return {"acquit." + name[:-3].replace("/", ".") for name in names} | set(LIBRARY)


def bound_names():
    """Pairs (file, name) of functions but methods, classes, imports, parameters and variables."""
    for name, node in nodes(ast.Module):
        methods = [part for cls in ast.walk(node) if isinstance(cls, ast.ClassDef) for part in cls.body]
        for part in ast.walk(node):
            if isinstance(part, ast.Name) and isinstance(part.ctx, ast.Store):
                yield name, part.id
            elif isinstance(part, ast.arg):
                yield name, part.arg
            elif isinstance(part, ast.alias):
                yield name, part.asname or part.name
            elif isinstance(part, (ast.FunctionDef, ast.ClassDef)) and part not in methods:
                yield name, part.name
            elif isinstance(part, ast.MatchAs) and part.name:
                yield name, part.name


if __name__ == "__main__":
    unittest.main()
