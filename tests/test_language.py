"""The rules of ../shared/LANGUAGE.md over statements, names, classes and values; test_form looks at the rest.

Where a rule lets more by than the package needs, the tests here are narrower than the rule.
"""

import ast
import builtins
import io
import re
import tokenize
import unittest

from tests.helper import ALL_BUILTINS, BUILTINS, files, nodes, trees

NODES = (
    "Module FunctionDef ClassDef Return Delete Assign AugAssign For While If Raise Try Assert ImportFrom Expr Pass "
    "Break Continue Match match_case MatchValue MatchSequence MatchAs BoolOp BinOp UnaryOp IfExp Dict ListComp "
    "SetComp DictComp Compare Call JoinedStr FormattedValue Constant Attribute Subscript Starred Name List Tuple Slice "
    "Load Store And Or Add Sub Mult Mod FloorDiv Not USub Eq NotEq Lt LtE Gt GtE Is IsNot In NotIn comprehension "
    "ExceptHandler arguments arg alias"
).split()
METHODS = (
    "append clear copy count endswith extend find get index insert isalnum isalpha isdigit islower isspace isupper "
    "items join keys ljust lower lstrip partition pop remove replace reverse rfind rjust rpartition rsplit rstrip "
    "setdefault split splitlines startswith strip update upper values zfill bit_length isascii isdecimal"
).split()
CHANGING = ("append", "clear", "extend", "insert", "pop", "remove", "reverse", "setdefault", "update")
LAZY = ("zip", "enumerate", "reversed", "range")
AT_ONCE = ("list", "tuple", "dict", "sorted", "sum", "any", "all", "enumerate", "zip", "min", "max")
NOWHERE = (
    "register mro elements open input version_info with_traceback add_note attrgetter breakpoint builtins compile "
    "copyright credits delattr dir eval exec exit gc getattr globals hasattr help id importlib license locals "
    "methodcaller os quit setattr type vars sys format format_map args"
).split()
VALUES_METHODS = {
    name for value in ("", 0, [], {}, set(), b"", ()) for name in dir(value) if not name.startswith("__")
}
ERRORS = [name for name in BUILTINS if isinstance(getattr(builtins, name), type)
          and issubclass(getattr(builtins, name), BaseException)]


def parents(tree):
    return {child: node for node in ast.walk(tree) for child in ast.iter_child_nodes(node)}


def called(node):
    """The name of the function that is called by its name, or None."""
    return node.func.id if isinstance(node, ast.Call) and isinstance(node.func, ast.Name) else None


def own_classes():
    return {node.name: node for file, node in nodes(ast.ClassDef)}


def own_methods():
    return {part.name for node in own_classes().values() for part in node.body if isinstance(part, ast.FunctionDef)}


def error_classes():
    """All own classes that are errors, by their bases."""
    found = set()
    for name, node in own_classes().items():
        if any(base.id in ERRORS or base.id in found for base in node.bases):
            found.add(name)
    return found


def bound_at_module_level(tree):
    names = []
    for node in tree.body:
        if isinstance(node, (ast.FunctionDef, ast.ClassDef)):
            names.append(node.name)
        elif isinstance(node, ast.ImportFrom):
            names += [part.name for part in node.names]
        elif isinstance(node, ast.Assign):
            names += [target.id for target in node.targets]
    return names


class Language(unittest.TestCase):
    def test_statements_and_expressions(self):
        for file, node in nodes(ast.AST):
            self.assertIn(type(node).__name__, NODES, (file, getattr(node, "lineno", 0)))

    def test_names_at_module_level_are_bound_once(self):
        for file, tree in trees():
            names = bound_at_module_level(tree)
            self.assertEqual(len(names), len(set(names)), file)
            for node in tree.body:
                if isinstance(node, ast.Assign):
                    self.assertEqual(len(node.targets), 1, file)
            self.assertFalse([part.name for node in tree.body if isinstance(node, ast.ImportFrom)
                              for part in node.names if part.asname or part.name == "*"], file)

    def test_imports_stand_at_the_top(self):
        for file, tree in trees():
            kinds = [isinstance(node, ast.ImportFrom) for node in tree.body if not isinstance(node, ast.Expr)]
            self.assertEqual(kinds, sorted(kinds, reverse=True), file)
            inner = [node for node in ast.walk(tree) if isinstance(node, ast.ImportFrom)]
            self.assertEqual(len(inner), sum(kinds), file)

    def test_classes_and_functions_stand_where_they_may(self):
        for file, tree in trees():
            above = parents(tree)
            for node in ast.walk(tree):
                if isinstance(node, ast.ClassDef):
                    self.assertIsInstance(above[node], ast.Module, file)
                    self.assertFalse(node.decorator_list or node.keywords, file)
                if isinstance(node, ast.FunctionDef):
                    self.assertIsInstance(above[node], (ast.Module, ast.ClassDef), file)

    def test_parameters_are_plain(self):
        for file, node in nodes(ast.arguments):
            self.assertFalse(node.vararg or node.kwarg or node.kwonlyargs or node.defaults or node.posonlyargs, file)
        for file, node in nodes(ast.arg):
            self.assertIsNone(node.annotation, file)

    def test_no_local_name_is_a_class_an_import_or_a_builtin(self):
        for file, tree in trees():
            taken = set(own_classes()) | set(ALL_BUILTINS)
            taken |= {part.name for node in tree.body if isinstance(node, ast.ImportFrom) for part in node.names}
            for node in ast.walk(tree):
                if isinstance(node, ast.arg):
                    self.assertNotIn(node.arg, taken, (file, node.lineno))
                if isinstance(node, ast.Name) and isinstance(node.ctx, (ast.Store, ast.Del)):
                    self.assertNotIn(node.id, taken, (file, node.lineno))
                if isinstance(node, ast.MatchAs) and node.name:
                    self.assertNotIn(node.name, taken, (file, node.lineno))

    def test_names_that_are_not_used(self):
        for file, node in nodes((ast.Name, ast.arg, ast.Attribute, ast.FunctionDef, ast.ClassDef, ast.MatchAs)):
            for field in ("id", "arg", "attr", "name"):
                self.assertNotIn(getattr(node, field, None), NOWHERE, (file, node.lineno))

    def test_methods_of_builtin_values_and_own_ones(self):
        methods = own_methods()
        for file, tree in trees():
            above = parents(tree)
            for node in ast.walk(tree):
                if not isinstance(node, ast.Attribute):
                    continue
                is_called = isinstance(above[node], ast.Call) and above[node].func is node
                if is_called:
                    self.assertTrue(node.attr in METHODS or node.attr in methods, (file, node.attr))
                else:
                    self.assertNotIn(node.attr, methods, (file, node.lineno))

    def test_names_of_own_methods_and_attributes(self):
        attributes = {node.attr for file, node in nodes(ast.Attribute) if isinstance(node.ctx, ast.Store)}
        self.assertFalse((own_methods() | attributes) & VALUES_METHODS)

    def test_attributes_that_are_read_are_assigned(self):
        assigned = {node.attr for file, node in nodes(ast.Attribute) if isinstance(node.ctx, ast.Store)}
        read = {node.attr for file, node in nodes(ast.Attribute) if isinstance(node.ctx, ast.Load)}
        self.assertEqual(read - assigned - own_methods() - set(METHODS), set())

    def test_methods_are_defined_once(self):
        for file, node in nodes(ast.ClassDef):
            names = [part.name for part in node.body if isinstance(part, ast.FunctionDef)]
            self.assertEqual(len(names), len(set(names)), (file, node.name))
            for part in node.body:
                self.assertIsInstance(part, (ast.FunctionDef, ast.Expr), (file, node.name))

    def test_builtins_and_classes_are_called_and_not_stored(self):
        names = set(BUILTINS) | set(own_classes())
        for file, tree in trees():
            above = parents(tree)
            for node in ast.walk(tree):
                if not isinstance(node, ast.Name) or node.id not in names:
                    continue
                around = above[node]
                good = (isinstance(around, ast.Call) and around.func is node) or isinstance(around, ast.ClassDef)
                good = good or isinstance(around, ast.ExceptHandler)
                good = good or (called(around) == "isinstance" and around.args[1] is node)
                self.assertTrue(good, (file, node.lineno, node.id))

    def test_calls_have_no_keywords_and_no_stars(self):
        for file, node in nodes(ast.Call):
            self.assertEqual(node.keywords, [], (file, node.lineno))
            self.assertFalse([part for part in node.args if isinstance(part, ast.Starred)], (file, node.lineno))

    def test_own_calls_pass_what_is_taken(self):
        takes = {node.name: len(node.args.args) for file, tree in trees() for node in tree.body
                 if isinstance(node, ast.FunctionDef)}
        for name, node in own_classes().items():
            starts = [len(part.args.args) - 1 for part in node.body if getattr(part, "name", "") == "__init__"]
            takes[name] = starts[0] if starts else 1
        for file, node in nodes(ast.Call):
            if called(node) in takes:
                self.assertEqual(len(node.args), takes[called(node)], (file, node.lineno))

    def test_what_is_lazy_is_iterated_at_once(self):
        for file, tree in trees():
            above = parents(tree)
            for node in ast.walk(tree):
                lazy = called(node) in LAZY
                if isinstance(node, ast.Call) and isinstance(node.func, ast.Attribute):
                    lazy = node.func.attr in ("items", "keys", "values")
                if lazy:
                    around = above[node]
                    good = isinstance(around, (ast.For, ast.comprehension)) and around.iter is node
                    self.assertTrue(good or called(around) in AT_ONCE, (file, node.lineno))

    def test_sets_stand_in_sorted_only(self):
        for file, tree in trees():
            above = parents(tree)
            for node in ast.walk(tree):
                if isinstance(node, ast.SetComp) or called(node) in ("set", "frozenset"):
                    self.assertEqual(called(above[node]), "sorted", (file, node.lineno))

    def test_comprehensions_stand_in_functions(self):
        for file, tree in trees():
            for part in tree.body:
                if isinstance(part, ast.Assign):
                    kinds = (ast.ListComp, ast.DictComp, ast.SetComp, ast.Call)
                    self.assertFalse([node for node in ast.walk(part) if isinstance(node, kinds)], file)

    def test_loops_do_not_change_what_they_iterate_over(self):
        for file, node in nodes(ast.For):
            names = {part.id for part in ast.walk(node.iter) if isinstance(part, ast.Name)}
            for part in ast.walk(node):
                if isinstance(part, ast.Call) and isinstance(part.func, ast.Attribute) and part.func.attr in CHANGING:
                    if isinstance(part.func.value, ast.Name):
                        self.assertNotIn(part.func.value.id, names, (file, part.lineno))
                if isinstance(part, ast.Subscript) and isinstance(part.ctx, ast.Store):
                    if isinstance(part.value, ast.Name):
                        self.assertNotIn(part.value.id, names, (file, part.lineno))

    def test_tables_at_module_level_are_only_read(self):
        tables = {node.targets[0].id for file, tree in trees() for node in tree.body
                  if isinstance(node, ast.Assign) and isinstance(node.value, (ast.Dict, ast.List))}
        self.assertTrue(tables)
        for file, tree in trees():
            above = parents(tree)
            for node in ast.walk(tree):
                if not isinstance(node, ast.Name) or node.id not in tables or isinstance(node.ctx, ast.Store):
                    continue
                around = above[node]
                good = isinstance(around, ast.Subscript) and around.value is node and isinstance(around.ctx, ast.Load)
                good = good or isinstance(around, ast.Compare)
                good = good or (isinstance(around, ast.Attribute) and around.attr in ("get", "items", "keys", "values"))
                good = good or called(around) in ("dict", "list", "len")
                self.assertTrue(good, (file, node.lineno))
        for file, tree in trees():
            for node in tree.body:
                if isinstance(node, ast.Assign) and isinstance(node.value, (ast.Dict, ast.List)):
                    parts = list(ast.walk(node.value))[1:]
                    self.assertFalse([part for part in parts if isinstance(part, (ast.Dict, ast.List))], file)

    def test_attributes_are_assigned_through_local_names(self):
        for file, node in nodes(ast.Attribute):
            if isinstance(node.ctx, ast.Store):
                self.assertIsInstance(node.value, ast.Name, (file, node.lineno))
                self.assertNotIn(node.value.id, own_classes(), (file, node.lineno))

    def test_errors_are_made_on_the_spot_and_caught_by_name(self):
        kinds = error_classes()
        self.assertEqual(len(kinds), 16)
        for file, node in nodes(ast.Raise):
            self.assertIn(called(node.exc), kinds, (file, node.lineno))
            if node.cause is not None:
                self.assertIsInstance(node.cause, ast.Constant, (file, node.lineno))
        for file, node in nodes(ast.ExceptHandler):
            self.assertIn(node.type.id, kinds, (file, node.lineno))
            self.assertIsNone(node.name, (file, node.lineno))

    def test_super_stands_in_init_only(self):
        for file, tree in trees():
            above = parents(tree)
            for node in ast.walk(tree):
                if called(node) == "super":
                    around = above[node]
                    self.assertEqual((node.args, around.attr), ([], "__init__"), (file, node.lineno))

    def test_what_stands_in_strings(self):
        for file in files():
            for token in tokenize.generate_tokens(io.StringIO(file.read_text()).readline):
                if token.type == tokenize.STRING:
                    escapes = re.findall(r"\\(.)", token.string)
                    self.assertFalse(set(escapes) - set("nt\\'\""), (file, token.start))
        for file, node in nodes(ast.FormattedValue):
            self.assertEqual((node.conversion, node.format_spec), (-1, None), (file, node.lineno))
            self.assertFalse([part for part in ast.walk(node) if isinstance(part, ast.JoinedStr)], (file, node.lineno))

    def test_no_function_calls_itself(self):
        # So that nothing depends on how deep calls may be.
        for file, node in nodes(ast.FunctionDef):
            inside = [called(part) for part in ast.walk(node) if isinstance(part, ast.Call)]
            self.assertNotIn(node.name, inside, (file, node.lineno))

    def test_names_of_files(self):
        for file in files():
            self.assertNotIn(file.stem, ALL_BUILTINS)
            self.assertNotRegex(file.stem, r"^(law_.*|test|tests|testing|test_.*|site|conftest|\w+customize)$")
        self.assertLessEqual(len(files()), 100)
