"""The package as a whole: what stands in which file, and the rules of size."""

import ast
import pathlib
import unittest

PACKAGE = pathlib.Path(__file__).resolve().parent.parent / "meshmend"

INTERFACE = {
    "sheets.py": {
        "sheet_error": ["value"],
        "knots": ["sheet"],
        "ends_of": ["sheet", "bar"],
        "bars_of": ["sheet", "knot"],
        "bar_between": ["sheet", "one", "other"],
        "are_opposite": ["sheet", "one", "other"],
    },
    "tears.py": {
        "tear_error": ["sheet", "value"],
        "lacks": ["sheet", "tear", "knot"],
        "odd": ["sheet", "tear"],
        "lost": ["sheet", "tear"],
        "holes": ["sheet", "tear"],
    },
    "plans.py": {
        "bars_along": ["sheet", "twine"],
        "fewest": ["sheet", "tear"],
        "plan": ["sheet", "tear"],
        "plan_error": ["sheet", "tear", "value"],
    },
    "trims.py": {
        "wrong": ["sheet", "tear", "ends"],
        "least_trim": ["sheet", "tear", "ends"],
        "easiest": ["sheet", "tear"],
    },
    "trimpapers.py": {
        "trim_paper": ["sheet", "tear", "ends"],
    },
    "trimchecker.py": {
        "lets_trim": ["sheet", "tear", "ends", "value"],
    },
    "rings.py": {
        "crossings": ["sheet", "tear"],
        "loops": ["sheet", "tear", "turning"],
        "rings": ["sheet", "tear"],
        "ring_at": ["sheet", "tear", "value"],
        "ring_number": ["sheet", "tear", "value"],
        "ring_of": ["sheet", "tear", "turning"],
        "turning_of": ["sheet", "tear", "twine"],
    },
    "exchanges.py": {
        "done": ["sheet", "tear", "turning", "value"],
        "exchanges": ["sheet", "tear", "one", "other"],
    },
    "edges.py": {
        "edge_error": ["value"],
        "fall": ["edge"],
        "even_edge": ["down", "aside"],
        "is_even": ["edge"],
        "round_of": ["edge"],
        "takings": ["one", "other"],
    },
    "texts.py": {
        "net_text": ["sheet", "tear"],
        "read_net": ["value"],
    },
}

PROPERTIES = ("sheet", "tear", "used")

LOFT = {
    "__init__": ["self", "sheet"],
    "__len__": ["self"],
    "__contains__": ["self", "bar"],
    "__iter__": ["self"],
    "__str__": ["self"],
    "__eq__": ["self", "other"],
    "holes": ["self"],
    "odd": ["self"],
    "fewest": ["self"],
    "rip": ["self", "bar"],
    "trim": ["self", "bars"],
    "mend": ["self", "twine"],
    "mend_all": ["self", "plan"],
    "undo": ["self"],
    "redo": ["self"],
    "listen": ["self", "function"],
    "unlisten": ["self", "number"],
    "twin": ["self"],
}


def files():
    return sorted(path for path in PACKAGE.rglob("*") if "__pycache__" not in path.parts)


class LayoutTest(unittest.TestCase):
    def test_the_folder_holds_plain_modules_alone(self):
        self.assertIn(PACKAGE / "__init__.py", files())
        for path in files():
            self.assertEqual(path.suffix, ".py", path)

    def test_functions_are_defined_in_their_files_with_their_arguments(self):
        for name, functions in INTERFACE.items():
            tree = ast.parse((PACKAGE / name).read_text())
            found = {
                node.name: [item.arg for item in node.args.args]
                for node in tree.body if isinstance(node, ast.FunctionDef)
            }
            for function, arguments in functions.items():
                self.assertEqual(found.get(function), arguments, function)

    def test_the_class_loft_defines_its_methods_itself(self):
        tree = ast.parse((PACKAGE / "lofts.py").read_text())
        loft = [node for node in tree.body if isinstance(node, ast.ClassDef) and node.name == "Loft"][0]
        methods = {node.name: node for node in loft.body if isinstance(node, ast.FunctionDef)}
        for name in PROPERTIES:
            self.assertEqual([item.id for item in methods[name].decorator_list], ["property"], name)
        for name, arguments in LOFT.items():
            self.assertEqual([item.arg for item in methods[name].args.args], arguments, name)
        self.assertEqual([item.arg for item in methods["__init__"].args.kwonlyargs], ["tear"])

    def test_sizes_and_characters(self):
        for path in files():
            text = path.read_bytes().decode("ascii")
            lines = text.splitlines()
            self.assertLessEqual(len(lines), 399, path)
            self.assertLessEqual(max([len(line) for line in lines]), 120, path)
            signs = set(text) - {"\n"}
            self.assertTrue(all(" " <= sign <= "~" for sign in signs), path)

    def test_functions_have_at_most_forty_lines(self):
        for path in files():
            for node in ast.walk(ast.parse(path.read_text())):
                if isinstance(node, ast.FunctionDef):
                    self.assertLessEqual(node.end_lineno - node.lineno + 1, 40, node.name)

    def test_imports_are_from_the_package_and_the_allowed_library(self):
        allowed = ("heapq", "math", "itertools", "collections", "__future__")
        for path in files():
            for node in ast.walk(ast.parse(path.read_text())):
                self.assertNotIsInstance(node, ast.Import, path)
                if isinstance(node, ast.ImportFrom):
                    self.assertEqual(node.level, 0, path)
                    within = node.module.startswith("meshmend.")
                    self.assertTrue(within or node.module in allowed, node.module)


if __name__ == "__main__":
    unittest.main()
