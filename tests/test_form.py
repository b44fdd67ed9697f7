"""Rules of the language subset that can be checked mechanically; the others need a reader."""

import ast
import builtins
import pathlib
import unittest

FOLDER = pathlib.Path(__file__).resolve().parent.parent / "sameasnew"
FILES = sorted(FOLDER.rglob("*.py"))

LIBRARY = {"heapq", "math", "itertools", "collections"}
BUILTINS = set("""len range enumerate zip min max sum abs sorted reversed int str bool list tuple dict set frozenset
    isinstance ord repr any all divmod pow map iter next getattr hasattr setattr super staticmethod classmethod property
    Exception ValueError TypeError KeyError IndexError LookupError ZeroDivisionError ArithmeticError OverflowError
    RuntimeError NotImplementedError AttributeError StopIteration NotImplemented""".split())

BARRED = set("register mro elements open input law format args keys values sort".split())


def docstrings(tree):
    found = []
    for node in ast.walk(tree):
        if isinstance(node, (ast.Module, ast.ClassDef, ast.FunctionDef)) and ast.get_docstring(node) is not None:
            found.append(node.body[0].value)
    return found


class Form(unittest.TestCase):
    def each_file(self):
        for path in FILES:
            with self.subTest(path.name):
                yield path.read_text(encoding="utf-8")

    def each_tree(self):
        for text in self.each_file():
            yield ast.parse(text)

    def test_the_folder_contains_only_files_of_python(self):
        others = [path.name for path in FOLDER.iterdir() if path.name != "__pycache__" and path not in FILES]
        self.assertEqual(others, [])
        self.assertIn(FOLDER / "__init__.py", FILES)

    def test_characters_and_sizes(self):
        for text in self.each_file():
            self.assertEqual(sorted({sign for sign in text if sign != "\n" and not " " <= sign <= "~"}), [])
            lines = text.split("\n")
            self.assertLessEqual(len(lines), 399)
            self.assertLessEqual(max(map(len, lines)), 120)

    def test_functions_are_small(self):
        for tree in self.each_tree():
            for node in ast.walk(tree):
                if isinstance(node, ast.FunctionDef):
                    self.assertLessEqual(node.end_lineno - node.lineno + 1, 40, node.name)

    def test_imports(self):
        for tree in self.each_tree():
            for node in ast.walk(tree):
                self.assertNotIsInstance(node, ast.Import)
                if isinstance(node, ast.ImportFrom):
                    self.assertEqual(node.level, 0)
                    self.assertTrue(node.module in LIBRARY or node.module.startswith("sameasnew."), node.module)

    def test_no_percent_signs_and_no_floats(self):
        for tree in self.each_tree():
            allowed = docstrings(tree)
            for node in ast.walk(tree):
                if isinstance(node, ast.Constant) and node not in allowed:
                    self.assertNotIsInstance(node.value, (float, complex))
                    self.assertFalse(isinstance(node.value, str) and "%" in node.value, node.value)
                self.assertNotIsInstance(node, ast.Div)

    def test_methods_and_attributes_have_different_names(self):
        methods, attributes = set(), set()
        for tree in self.each_tree():
            for node in ast.walk(tree):
                if isinstance(node, ast.ClassDef):
                    methods |= {part.name for part in node.body if isinstance(part, ast.FunctionDef)}
                if isinstance(node, ast.Attribute) and isinstance(node.ctx, ast.Store):
                    attributes.add(node.attr)
        self.assertEqual(sorted(methods & attributes), [])
        self.assertEqual(sorted((methods | attributes) & BARRED), [])

    def test_no_name_hides_another_one(self):
        for tree in self.each_tree():
            outer = {node.name for node in tree.body if isinstance(node, (ast.FunctionDef, ast.ClassDef))}
            outer |= {part.name for node in tree.body if isinstance(node, ast.ImportFrom) for part in node.names}
            for node in ast.walk(tree):
                if isinstance(node, ast.arg):
                    self.assertNotIn(node.arg, outer | set(dir(builtins)))
                if isinstance(node, ast.Name) and isinstance(node.ctx, ast.Store):
                    self.assertNotIn(node.id, outer)

    def test_no_files_import_from_each_other(self):
        imported = {path.stem: [node.module.partition(".")[2] for node in ast.parse(path.read_text()).body
                                if isinstance(node, ast.ImportFrom)] for path in FILES}
        while imported:
            free = [name for name in imported if not set(imported[name]) & set(imported)]
            self.assertNotEqual(free, [])
            for name in free:
                del imported[name]

    def test_builtins(self):
        for tree in self.each_tree():
            for node in ast.walk(tree):
                if isinstance(node, ast.Name) and hasattr(builtins, node.id):
                    self.assertIn(node.id, BUILTINS)
                    self.assertIsInstance(node.ctx, ast.Load)


if __name__ == "__main__":
    unittest.main()
