"""The form of the package: what of ../shared/LANGUAGE.md a short look at the files can tell."""

import ast
import re
import unittest

from tests.helper import ALL_BUILTINS, BUILTINS, FOLDER, files, nodes, trees

BARRED = (
    "type", "typing", "typing_extensions", "enum", "Enum", "IntEnum", "StrEnum", "Flag", "IntFlag", "Generic",
    "Protocol", "ABC", "ABCMeta", "namedtuple", "NamedTuple", "TypedDict", "TYPE_CHECKING", "abstractmethod",
)
BARRED_PARTS = ("dataclass", "overload", "contextmanager")


class Form(unittest.TestCase):
    def test_the_folder_holds_files_only(self):
        names = [entry.name for entry in FOLDER.iterdir() if entry.name != "__pycache__"]
        self.assertIn("__init__.py", names)
        for name in names:
            self.assertRegex(name, r"^[a-z0-9_]+\.py$")

    def test_characters_and_lines(self):
        for file in files():
            text = file.read_text()
            self.assertRegex(text, r"\A[ -~\n]*\Z", file)
            lines = text.split("\n")
            self.assertLessEqual(len(lines), 400, file)
            self.assertLessEqual(max(len(line) for line in lines), 120, file)

    def test_barred_words(self):
        for file in files():
            text = file.read_text()
            words = re.findall(r"[A-Za-z0-9_]+", text)
            self.assertFalse(set(words) & set(BARRED), file)
            self.assertFalse([part for part in BARRED_PARTS if part in text], file)

    def test_functions_are_short_and_plain(self):
        for file, node in nodes(ast.FunctionDef):
            self.assertLessEqual(node.end_lineno - node.lineno + 1, 40, (file, node.name))
            self.assertEqual((node.decorator_list, node.args.posonlyargs), ([], []), (file, node.name))

    def test_imports(self):
        self.assertEqual(nodes(ast.Import), [])
        for file, node in nodes(ast.ImportFrom):
            self.assertRegex(node.module, r"^slideboxes\.[a-z]+$", file)
            self.assertEqual(node.level, 0, file)
            text = (FOLDER / (node.module.split(".")[1] + ".py")).read_text()
            for name in node.names:
                self.assertRegex(text, rf"(?m)^((def|class) {name.name}\b|{name.name} = )", file)

    def test_no_circle_of_imports(self):
        above = {file.stem: set() for file in files()}
        for file, node in nodes(ast.ImportFrom):
            above[file.stem].add(node.module.split(".")[1])
        while above:
            free = [name for name in above if not above[name] & set(above)]
            self.assertTrue(free, above)
            above = {name: above[name] for name in above if name not in free}

    def test_module_level(self):
        allowed = (ast.FunctionDef, ast.ClassDef, ast.ImportFrom, ast.Assign, ast.Expr)
        for file, tree in trees():
            for at, node in enumerate(tree.body):
                self.assertIsInstance(node, allowed, file)
                if isinstance(node, ast.Expr):
                    self.assertEqual(at, 0, file)
                    self.assertIsInstance(node.value, ast.Constant, file)
                if isinstance(node, ast.Assign):
                    ast.literal_eval(node.value)

    def test_names(self):
        for file, node in nodes((ast.Name, ast.arg, ast.Attribute, ast.FunctionDef, ast.ClassDef)):
            name = [getattr(node, field) for field in ("id", "arg", "attr", "name") if hasattr(node, field)][0]
            if name != "__init__":
                self.assertRegex(name, r"^[A-Za-z][A-Za-z0-9_]*$", file)

    def test_builtins(self):
        for file, node in nodes(ast.Name):
            if node.id in ALL_BUILTINS:
                self.assertIn(node.id, BUILTINS, file)
                self.assertIsInstance(node.ctx, ast.Load, file)
        for file, node in nodes(ast.arg):
            self.assertNotIn(node.arg, ALL_BUILTINS, file)

    def test_no_name_is_a_method_and_an_attribute(self):
        methods = {part.name for file, node in nodes(ast.ClassDef) for part in node.body
                   if isinstance(part, ast.FunctionDef)}
        attributes = {node.attr for file, node in nodes(ast.Attribute) if isinstance(node.ctx, ast.Store)}
        self.assertEqual(methods & attributes, set())

    def test_strings_and_divisions(self):
        for file, node in nodes(ast.Constant):
            self.assertNotIsInstance(node.value, float, file)
            if isinstance(node.value, str):
                self.assertNotIn("%", node.value, file)
        self.assertEqual(nodes((ast.Div, ast.Global, ast.Await)), [])

    def test_is_only_with_none(self):
        for file, node in nodes(ast.Compare):
            if isinstance(node.ops[0], (ast.Is, ast.IsNot)):
                self.assertIsInstance(node.comparators[0], ast.Constant, file)
