"""Point 3 and the rules that every file of the package keeps."""

import ast
import pathlib
import unittest

ROOT = pathlib.Path(__file__).resolve().parent.parent
FILES = sorted((ROOT / "allout").glob("*.py"))
LIBRARY = ("heapq", "math", "itertools", "collections", "__future__")
BUILTINS_THAT_REACH_OUTSIDE = ("open", "input", "print", "eval", "exec", "compile", "globals", "vars")

INTERFACE = {
    "plans": ("Plan", "open_doors", "present", "check_element", "values_of", "price_of"),
    "ways": ("distances", "route", "way_length", "choke_points", "common_path", "two_ways", "detour"),
    "loads": ("persons", "loads", "quantity"),
    "codes": ("Code", "first_wrong_line", "read_line", "print_line", "condition_of"),
    "judging": ("holds", "related", "worth", "demanded", "allowed", "required", "violations", "is_compliant"),
    "upgrades": ("least_upgrade", "reasons", "check_reasons"),
    "choices": ("cheapest", "cheapest_in_time"),
    "minutes": ("rate", "walk", "course_fault", "outside_by", "out_by", "cut_worth", "earliest", "clear_by", "helpful"),
    "projects": ("Project",),
    "texts": ("plan_text", "plan_of"),
}
METHODS = {
    ("codes", "Code"): ("__init__", "text"),
    ("projects", "Project"): (
        "__init__", "measures", "present_values", "editions", "codes", "log", "adopt", "raise_to", "install",
        "upgrade", "undo", "fork", "violations", "clear_by"),
}

BARRED_NAMES = ("register", "mro", "elements", "open", "input", "law", "version_info", "with_traceback", "add_note")
BUILTINS = (
    "len", "range", "enumerate", "zip", "min", "max", "sum", "abs", "sorted", "reversed", "int", "str", "bool",
    "list", "tuple", "dict", "set", "isinstance", "ord", "repr", "any", "all", "divmod", "ValueError",
)


def tree_of(path):
    return ast.parse(path.read_text(encoding="ascii"))


def bound_names(tree):
    """The names that functions of a file bind: parameters, targets, nested functions."""
    for node in ast.walk(tree):
        if isinstance(node, ast.arg):
            yield node.arg
        elif isinstance(node, ast.Name) and not isinstance(node.ctx, ast.Load):
            yield node.id


def module_names(tree):
    """The names of a file's imports, functions, classes and constants, as often as they are bound."""
    found = []
    for node in tree.body:
        if isinstance(node, ast.ImportFrom):
            found += [row.asname or row.name for row in node.names]
        elif isinstance(node, (ast.FunctionDef, ast.ClassDef)):
            found.append(node.name)
        elif isinstance(node, ast.Assign):
            found += [target.id for target in node.targets]
    return found


class RulesTest(unittest.TestCase):
    def test_package_is_one_folder_of_files(self):
        self.assertIn("__init__.py", [path.name for path in FILES])
        others = [path for path in (ROOT / "allout").iterdir() if path not in FILES]
        self.assertEqual([path.name for path in others if path.name != "__pycache__"], [])

    def test_imports_come_from_the_package(self):
        for path in FILES:
            for node in ast.walk(tree_of(path)):
                self.assertNotIsInstance(node, ast.Import, path.name)
                if isinstance(node, ast.ImportFrom):
                    parts = node.module.split(".")
                    self.assertTrue(parts[0] == "allout" or node.module in LIBRARY, path.name)
                    self.assertEqual(node.level, 0)

    def test_no_builtin_that_reaches_outside(self):
        for path in FILES:
            names = {node.id for node in ast.walk(tree_of(path)) if isinstance(node, ast.Name)}
            self.assertEqual(names & set(BUILTINS_THAT_REACH_OUTSIDE), set(), path.name)

    def test_sizes_and_characters(self):
        for path in FILES:
            text = path.read_text(encoding="utf-8")
            self.assertTrue(all(sign == "\n" or " " <= sign <= "~" for sign in text), path.name)
            self.assertLessEqual(len(text.splitlines()), 399, path.name)
            self.assertLessEqual(max(len(line) for line in text.splitlines()), 120, path.name)
            for node in ast.walk(tree_of(path)):
                if isinstance(node, ast.FunctionDef):
                    self.assertLessEqual(node.end_lineno - node.lineno + 1, 40, node.name)

    def test_names_have_one_meaning(self):
        for path in FILES:
            tree = tree_of(path)
            names = module_names(tree)
            self.assertEqual(len(names), len(set(names)), path.name)
            shared = [name for name in names if name[0].isupper()]
            shared += [row.name for node in tree.body if isinstance(node, ast.ImportFrom) for row in node.names]
            constants = [node.targets[0].id for node in tree.body if isinstance(node, ast.Assign)]
            inner = [name for name in bound_names(tree) if name not in constants]
            self.assertEqual(set(inner) & set(shared), set(), path.name)
            self.assertEqual((set(inner) | set(names)) & (set(BARRED_NAMES) | set(BUILTINS)), set(), path.name)

    def test_builtins_are_those_that_are_allowed(self):
        for path in FILES:
            tree = tree_of(path)
            known = set(module_names(tree)) | set(bound_names(tree)) | set(BUILTINS)
            names = {node.id for node in ast.walk(tree) if isinstance(node, ast.Name)}
            self.assertEqual(names - known, set(), path.name)

    def test_imports_are_used(self):
        for path in FILES:
            tree = tree_of(path)
            imported = {row.name for node in tree.body if isinstance(node, ast.ImportFrom) for row in node.names}
            used = {node.id for node in ast.walk(tree) if isinstance(node, ast.Name)}
            self.assertEqual(imported - used, set(), path.name)

    def test_strings(self):
        for path in FILES:
            for node in ast.walk(tree_of(path)):
                if isinstance(node, ast.Constant) and isinstance(node.value, str):
                    self.assertNotIn("%", node.value, path.name)

    def test_no_two_files_import_from_each_other(self):
        sources = {path.stem: [node.module.split(".")[1] for node in tree_of(path).body
                               if isinstance(node, ast.ImportFrom)] for path in FILES}
        done = []
        while len(done) < len(sources):
            ready = [name for name in sources if name not in done and set(sources[name]) <= set(done)]
            self.assertNotEqual(ready, [], sources)
            done += ready

    def test_interface_is_defined_in_its_files(self):
        for name, wanted in INTERFACE.items():
            body = tree_of(ROOT / "allout" / f"{name}.py").body
            defined = [node.name for node in body if isinstance(node, (ast.FunctionDef, ast.ClassDef))]
            for one in wanted:
                self.assertIn(one, defined)

    def test_methods_are_defined_in_their_classes(self):
        for (name, owner), wanted in METHODS.items():
            body = tree_of(ROOT / "allout" / f"{name}.py").body
            methods = [row.name for node in body if isinstance(node, ast.ClassDef) and node.name == owner
                       for row in node.body if isinstance(row, ast.FunctionDef)]
            for one in wanted:
                self.assertIn(one, methods)


if __name__ == "__main__":
    unittest.main()
