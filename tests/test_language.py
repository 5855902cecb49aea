"""The files of the package keep to the rules of its language that are plain to see: their form, imports and names."""

import ast
import builtins
import pathlib
import unittest

PACKAGE = pathlib.Path(__file__).resolve().parent.parent / "runsorts"
FILES = sorted(PACKAGE.rglob("*.py"))
LIBRARY = {"heapq", "math", "itertools", "collections"}
BARRED_NAMES = {
    "open", "input", "eval", "exec", "compile", "globals", "locals", "vars", "dir", "id", "hash", "type", "float",
    "filter", "round", "print", "chr", "object", "bytearray", "memoryview", "callable", "format", "slice",
}
BARRED_STATEMENTS = (ast.Global, ast.AsyncFunctionDef, ast.AsyncFor, ast.AsyncWith, ast.Await, ast.Import, ast.Div)


class Language(unittest.TestCase):
    def test_there_are_files(self):
        self.assertIn("__init__.py", [file.name for file in FILES])

    def test_the_package_holds_nothing_else(self):
        others = [file for file in PACKAGE.rglob("*") if file.is_file() and file.suffix not in (".py", ".pyc")]
        self.assertEqual(others, [])

    def test_files_lines_and_characters(self):
        for file in FILES:
            with self.subTest(file=file.name):
                text = file.read_text(encoding="utf-8")
                lines = text.split("\n")
                self.assertLessEqual(len(lines), 399)
                self.assertLessEqual(max(len(line) for line in lines), 120)
                self.assertEqual([sign for sign in text if not (" " <= sign <= "~" or sign == "\n")], [])

    def test_functions_are_small(self):
        for file, node in nodes():
            if isinstance(node, ast.FunctionDef):
                with self.subTest(file=file.name, function=node.name):
                    self.assertLessEqual(node.end_lineno - node.lineno + 1, 40)

    def test_imports_are_of_the_package_or_the_few_of_the_library(self):
        for file, node in nodes():
            if isinstance(node, ast.ImportFrom):
                with self.subTest(file=file.name, line=node.lineno):
                    self.assertEqual(node.level, 0)
                    self.assertIn(node.module.split(".")[0], LIBRARY | {"runsorts"})

    def test_no_statement_or_name_that_is_barred(self):
        for file, node in nodes():
            with self.subTest(file=file.name, line=getattr(node, "lineno", 0)):
                self.assertNotIsInstance(node, BARRED_STATEMENTS)
                if isinstance(node, ast.Name):
                    self.assertNotIn(node.id, BARRED_NAMES)
                if isinstance(node, ast.Constant):
                    self.assertNotIsInstance(node.value, (float, complex))
                if isinstance(node, ast.Constant) and isinstance(node.value, str):
                    self.assertNotIn("%", node.value)

    def test_no_name_is_that_of_a_builtin_or_of_an_import(self):
        for file in FILES:
            tree = ast.parse(file.read_text(encoding="utf-8"))
            taken = set(dir(builtins))
            for node in tree.body:
                if isinstance(node, ast.ImportFrom):
                    taken |= {alias.name for alias in node.names}
                if isinstance(node, (ast.ClassDef, ast.FunctionDef)):
                    taken.add(node.name)
            for node in ast.walk(tree):
                with self.subTest(file=file.name, line=getattr(node, "lineno", 0)):
                    if isinstance(node, ast.Name) and isinstance(node.ctx, ast.Store):
                        self.assertNotIn(node.id, taken)
                    if isinstance(node, ast.arg):
                        self.assertNotIn(node.arg, taken)

    def test_no_name_is_a_method_and_an_attribute(self):
        methods, attributes = set(), set()
        for _, node in nodes():
            if isinstance(node, ast.ClassDef):
                methods |= {part.name for part in node.body if isinstance(part, ast.FunctionDef)}
            if isinstance(node, ast.Attribute) and isinstance(node.ctx, ast.Store):
                attributes.add(node.attr)
                self.assertIsInstance(node.value, ast.Name)
        self.assertEqual(methods & attributes, set())
        builtin = {name for kind in (str, int, bytes, list, tuple, dict, set) for name in dir(kind)}
        self.assertEqual((methods | attributes) & builtin, {"__init__"})

    def test_what_is_stays_with_none(self):
        for file, node in nodes():
            if isinstance(node, ast.Compare) and any(isinstance(sign, (ast.Is, ast.IsNot)) for sign in node.ops):
                with self.subTest(file=file.name, line=node.lineno):
                    for other in node.comparators:
                        self.assertIsInstance(other, ast.Constant)

    def test_no_two_files_import_from_each_other(self):
        imports = {file.stem: set() for file in FILES}
        for file, node in nodes():
            if isinstance(node, ast.ImportFrom) and node.module.startswith("runsorts."):
                imports[file.stem].add(node.module.split(".")[1])
        while imports:
            free = [name for name in imports if not imports[name] & set(imports)]
            self.assertTrue(free, imports)
            for name in free:
                del imports[name]


def nodes():
    """Tell each node of each file, with the file."""
    return [(file, node) for file in FILES for node in ast.walk(ast.parse(file.read_text(encoding="utf-8")))]


if __name__ == "__main__":
    unittest.main()
