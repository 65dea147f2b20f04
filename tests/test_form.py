"""The form of the package's files, as far as it is easily seen from the outside.

This is no full check of the language: it looks for what slips in most easily.
"""

import ast
import builtins
import os
import re
import unittest

FOLDER = os.path.join(os.path.dirname(os.path.dirname(os.path.abspath(__file__))), "mobileair")

BUILTINS = set(
    "len range enumerate zip min max sum abs sorted reversed int str bool list tuple dict set isinstance ord repr "
    "any all divmod".split()
)
STATEMENTS = (ast.Import, ast.Global, ast.Nonlocal, ast.AsyncFunctionDef, ast.AsyncFor, ast.AsyncWith, ast.Await)


def sources():
    found = []
    for name in sorted(os.listdir(FOLDER)):
        if name != "__pycache__":
            with open(os.path.join(FOLDER, name), encoding="utf-8", newline="") as file:
                found.append((name, file.read()))
    return found


def trees():
    return [(name, ast.parse(text)) for name, text in sources()]


class FormTest(unittest.TestCase):
    def test_files_have_plain_names(self):
        names = [name for name, _ in sources()]
        self.assertIn("__init__.py", names)
        for name in names:
            self.assertRegex(name, r"\A[a-z0-9_]+\.py\Z")

    def test_lines_and_characters(self):
        for name, text in sources():
            self.assertIsNone(re.search(r"[^ -~\n]", text), name)
            self.assertLessEqual(text.count("\n"), 399, name)
            self.assertTrue(text.endswith("\n"), name)
            for line in text.split("\n"):
                self.assertLessEqual(len(line), 120, name)

    def test_functions_are_small(self):
        for name, tree in trees():
            for node in ast.walk(tree):
                if isinstance(node, ast.FunctionDef):
                    self.assertLessEqual(node.end_lineno - node.lineno + 1, 40, (name, node.name))
                    self.assertEqual(node.decorator_list, [], (name, node.name))

    def test_module_level_holds_definitions_only(self):
        for name, tree in trees():
            self.assertIsInstance(tree.body[0], ast.Expr, name)
            for node in tree.body[1:]:
                self.assertIsInstance(node, (ast.ImportFrom, ast.Assign, ast.FunctionDef, ast.ClassDef), name)

    def test_imports_name_the_package(self):
        for name, tree in trees():
            imports = [node for node in ast.walk(tree) if isinstance(node, ast.ImportFrom)]
            for node in imports:
                self.assertIn(node, tree.body, name)
                self.assertEqual(node.level, 0, name)
                self.assertRegex(node.module, r"\Amobileair\.[a-z]+\Z", name)
                self.assertTrue(all(part.name != "*" for part in node.names), name)

    def test_no_other_statements_and_values(self):
        for name, tree in trees():
            for node in ast.walk(tree):
                self.assertNotIsInstance(node, STATEMENTS, name)
                self.assertNotIsInstance(getattr(node, "op", None), ast.Div, name)
                if isinstance(node, ast.Constant):
                    self.assertNotIsInstance(node.value, (float, complex, bytes), name)
                    self.assertNotIn("%", str(node.value), name)

    def test_only_the_builtins_that_are_allowed(self):
        for name, tree in trees():
            bound = {node.id for node in ast.walk(tree) if isinstance(node, ast.Name) and
                     isinstance(node.ctx, ast.Store)}
            bound |= {node.arg for node in ast.walk(tree) if isinstance(node, ast.arg)}
            bound |= {node.name for node in tree.body if isinstance(node, (ast.FunctionDef, ast.ClassDef))}
            bound |= {part.name for node in tree.body if isinstance(node, ast.ImportFrom) for part in node.names}
            read = {node.id for node in ast.walk(tree) if isinstance(node, ast.Name)} - bound
            self.assertLessEqual(read, BUILTINS | {"ValueError"}, name)
            self.assertEqual(bound & set(dir(builtins)), set(), name)


if __name__ == "__main__":
    unittest.main()
