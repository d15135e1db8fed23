"""Point 3 and the rules that every file of the package keeps."""

import ast
import pathlib
import unittest

ROOT = pathlib.Path(__file__).resolve().parent.parent
FILES = sorted((ROOT / "allout").glob("*.py"))
LIBRARY = ("heapq", "math", "itertools", "collections", "__future__")
BUILTINS_THAT_REACH_OUTSIDE = ("open", "input", "print", "eval", "exec", "compile", "globals", "vars")

INTERFACE = {
    "plans": ("Plan", "open_doors", "present", "check_element", "values_of", "price_of"),
    "ways": ("distances", "route", "way_length", "choke_points", "common_path", "two_ways", "detour"),
}


def tree_of(path):
    return ast.parse(path.read_text(encoding="ascii"))


class RulesTest(unittest.TestCase):
    def test_package_is_one_folder_of_files(self):
        self.assertIn("__init__.py", [path.name for path in FILES])
        others = [path for path in (ROOT / "allout").iterdir() if path not in FILES]
        self.assertEqual([path.name for path in others if path.name != "__pycache__"], [])

    def test_imports_come_from_the_package(self):
        for path in FILES:
            for node in ast.walk(tree_of(path)):
                self.assertNotIsInstance(node, ast.Import, path.name)
                if isinstance(node, ast.ImportFrom):
                    parts = node.module.split(".")
                    self.assertTrue(parts[0] == "allout" or node.module in LIBRARY, path.name)
                    self.assertEqual(node.level, 0)

    def test_no_builtin_that_reaches_outside(self):
        for path in FILES:
            names = {node.id for node in ast.walk(tree_of(path)) if isinstance(node, ast.Name)}
            self.assertEqual(names & set(BUILTINS_THAT_REACH_OUTSIDE), set(), path.name)

    def test_sizes_and_characters(self):
        for path in FILES:
            text = path.read_text(encoding="utf-8")
            self.assertTrue(all(sign == "\n" or " " <= sign <= "~" for sign in text), path.name)
            self.assertLessEqual(len(text.splitlines()), 399, path.name)
            self.assertLessEqual(max(len(line) for line in text.splitlines()), 120, path.name)
            for node in ast.walk(tree_of(path)):
                if isinstance(node, ast.FunctionDef):
                    self.assertLessEqual(node.end_lineno - node.lineno + 1, 40, node.name)

    def test_interface_is_defined_in_its_files(self):
        for name, wanted in INTERFACE.items():
            body = tree_of(ROOT / "allout" / f"{name}.py").body
            defined = [node.name for node in body if isinstance(node, (ast.FunctionDef, ast.ClassDef))]
            for one in wanted:
                self.assertIn(one, defined)


if __name__ == "__main__":
    unittest.main()
