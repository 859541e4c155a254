"""Rules of the language that the package is written in which can be seen file by file."""

import ast
import pathlib
import re
import unittest

PACKAGE = pathlib.Path(__file__).resolve().parent.parent / "stopdesk"
FILES = sorted(PACKAGE.rglob("*.py"))

BUILTINS = set("""len range enumerate zip min max sum abs sorted reversed int str bool list tuple dict set isinstance
    ord repr any all divmod super ValueError TypeError KeyError IndexError LookupError""".split())
METHODS = set("""append clear copy count endswith extend find get index insert isalnum isalpha isdigit islower isspace
    isupper items join keys ljust lower lstrip partition pop remove replace reverse rfind rjust rpartition rsplit
    rstrip setdefault split splitlines startswith strip update upper values zfill bit_length isascii""".split())
BARRED_NODES = (ast.Global, ast.AsyncFunctionDef, ast.AsyncFor, ast.AsyncWith, ast.Await, ast.Import, ast.Div)
BARRED_WORDS = re.compile(r"\b(type|typing|enum|Enum|ABC|namedtuple|Protocol|Generic|register|mro|elements|open|input"
                          r"|law|eval|exec|exit|globals|locals|vars|dir|id)\b")


def own_names(trees):
    """All names that the package gives to functions, classes, methods and attributes."""
    names = set()
    for tree in trees:
        for node in ast.walk(tree):
            if isinstance(node, (ast.FunctionDef, ast.ClassDef)):
                names.add(node.name)
    return names


class Language(unittest.TestCase):
    @classmethod
    def setUpClass(cls):
        cls.texts = {path.name: path.read_text("utf-8") for path in FILES}
        cls.trees = {name: ast.parse(text) for name, text in cls.texts.items()}

    def nodes(self, *kinds):
        for file, tree in self.trees.items():
            for node in ast.walk(tree):
                if isinstance(node, kinds):
                    yield f"{file}:{getattr(node, 'lineno', 0)}", node

    def test_the_folder_holds_plain_files_alone(self):
        others = [path for path in PACKAGE.rglob("*") if path.suffix != ".py" and "__pycache__" not in path.parts]
        self.assertEqual(others, [])
        self.assertIn("__init__.py", self.texts)

    def test_sizes(self):
        for file, text in self.texts.items():
            lines = text.split("\n")
            self.assertLess(len(lines), 400, file)
            for number, line in enumerate(lines, 1):
                self.assertLessEqual(len(line), 120, f"{file}:{number}")
        for where, node in self.nodes(ast.FunctionDef):
            self.assertLessEqual(node.end_lineno - node.lineno + 1, 40, where)

    def test_characters(self):
        for file, text in self.texts.items():
            self.assertEqual([sign for sign in text if not (" " <= sign <= "~" or sign == "\n")], [], file)

    def test_imports_are_of_the_package(self):
        for where, node in self.nodes(ast.ImportFrom):
            self.assertEqual(node.level, 0, where)
            self.assertTrue(node.module.startswith("stopdesk."), where)
            self.assertIn(node.module.split(".")[1] + ".py", self.texts, where)
            self.assertNotIn("*", [name.name for name in node.names], where)
            defined = self.trees[node.module.split(".")[1] + ".py"].body
            bound = {getattr(row, "name", None) for row in defined}
            bound |= {target.id for row in defined if isinstance(row, ast.Assign) for target in row.targets}
            self.assertLessEqual({name.name for name in node.names}, bound, where)

    def test_module_level(self):
        for file, tree in self.trees.items():
            for row in tree.body:
                self.assertIsInstance(row, (ast.Expr, ast.ImportFrom, ast.FunctionDef, ast.ClassDef, ast.Assign), file)
                if isinstance(row, ast.Expr):
                    self.assertIsInstance(row.value, ast.Constant, file)
                if isinstance(row, ast.Assign):
                    ast.literal_eval(row.value)

    def test_barred_statements(self):
        self.assertEqual([where for where, _ in self.nodes(*BARRED_NODES)], [])
        for where, node in self.nodes(ast.FunctionDef, ast.ClassDef):
            self.assertEqual(node.decorator_list, [], where)

    def test_barred_words(self):
        for file, text in self.texts.items():
            for number, line in enumerate(text.split("\n"), 1):
                self.assertIsNone(BARRED_WORDS.search(line), f"{file}:{number}")

    def test_strings(self):
        for where, node in self.nodes(ast.Constant):
            if isinstance(node.value, str):
                self.assertNotIn("%", node.value, where)
            self.assertNotIsInstance(node.value, (float, complex), where)

    def test_names_that_are_called(self):
        own = own_names(self.trees.values())
        for where, node in self.nodes(ast.Call):
            if isinstance(node.func, ast.Name):
                self.assertIn(node.func.id, own | BUILTINS, where)
            else:
                self.assertIn(node.func.attr, own | METHODS | {"__init__"}, where)

    def test_no_name_is_a_method_and_an_attribute(self):
        own = own_names(self.trees.values())
        for where, node in self.nodes(ast.Attribute):
            if isinstance(node.ctx, ast.Store):
                self.assertNotIn(node.attr, own, where)

    def test_attributes_are_assigned_through_a_local_name(self):
        for where, node in self.nodes(ast.Attribute):
            if isinstance(node.ctx, ast.Store):
                self.assertIsInstance(node.value, ast.Name, where)


if __name__ == "__main__":
    unittest.main()
