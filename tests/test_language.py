"""Some rules of LANGUAGE.md that a short look over the package's files can see."""

import ast
import builtins
import os
import re
import unittest

PACKAGE = os.path.join(os.path.dirname(os.path.dirname(os.path.abspath(__file__))), "farend")

BARRED = [
    "type", "typing", "typing_extensions", "enum", "Enum", "IntEnum", "StrEnum", "Flag", "IntFlag", "Generic",
    "Protocol", "ABC", "ABCMeta", "namedtuple", "NamedTuple", "TypedDict", "TYPE_CHECKING", "abstractmethod",
]
BARRED_WITHIN = ["dataclass", "overload", "contextmanager"]

# L8 without chr (L27), and L25's methods of builtin values with sort.
BUILTINS = (
    "len range enumerate zip min max sum abs sorted reversed int str bool bytes list tuple dict set frozenset isinstance ord "
    "repr any all divmod ValueError KeyError IndexError ZeroDivisionError True False None"
).split()
METHODS = (
    "append clear copy count endswith extend find get index insert isalnum isalpha isdigit islower isspace isupper items "
    "join keys ljust lower lstrip partition pop remove replace reverse rfind rjust rpartition rsplit rstrip setdefault split "
    "splitlines startswith strip update upper values zfill bit_length removeprefix removesuffix isascii isdecimal add discard "
    "__init__"
).split()
BARRED_NODES = (ast.Global, ast.AsyncFunctionDef, ast.AsyncFor, ast.AsyncWith, ast.Await, ast.Div)


def package_files():
    return sorted(name for name in os.listdir(PACKAGE) if name != "__pycache__")


def texts():
    for name in package_files():
        with open(os.path.join(PACKAGE, name), encoding="utf-8") as file:
            yield name, file.read()


class LanguageTest(unittest.TestCase):
    def test_files(self):
        for name in package_files():
            self.assertRegex(name, r"\A[a-z0-9_]+\.py\Z")
        self.assertIn("__init__.py", package_files())

    def test_characters_and_sizes(self):
        for name, text in texts():
            self.assertRegex(text, r"\A[ -~\n]*\Z", name)
            self.assertLessEqual(len(text.splitlines()), 400, name)
            self.assertLessEqual(max(len(line) for line in text.splitlines()), 120, name)

    def test_functions_are_small(self):
        for name, text in texts():
            for node in ast.walk(ast.parse(text)):
                if isinstance(node, ast.FunctionDef):
                    self.assertLessEqual(node.end_lineno - node.lineno + 1, 40, (name, node.name))

    def test_barred_words(self):
        for name, text in texts():
            words = re.findall(r"[A-Za-z0-9_]+", text)
            for word in BARRED:
                self.assertNotIn(word, words, name)
            for word in BARRED_WITHIN:
                self.assertNotIn(word, text, name)

    def test_imports_from_the_package_alone(self):
        for name, text in texts():
            for node in ast.walk(ast.parse(text)):
                self.assertNotIsInstance(node, ast.Import, name)
                if isinstance(node, ast.ImportFrom):
                    self.assertEqual(node.level, 0, name)
                    self.assertRegex(node.module, r"\A(farend\.[a-z]+|__future__)\Z", name)

    def test_no_name_is_a_method_here_and_an_attribute_there(self):
        methods, attributes = set(), set()
        for name, text in texts():
            for node in ast.walk(ast.parse(text)):
                if isinstance(node, ast.ClassDef):
                    methods |= {one.name for one in node.body if isinstance(one, ast.FunctionDef)}
                if isinstance(node, ast.Attribute) and isinstance(node.ctx, ast.Store):
                    attributes.add(node.attr)
        self.assertEqual(methods & attributes, set())

    def test_no_local_name_hides_an_import_a_class_or_a_builtin(self):
        for name, text in texts():
            tree = ast.parse(text)
            taken = set(dir(builtins))
            for node in tree.body:
                if isinstance(node, ast.ImportFrom):
                    taken |= {one.asname or one.name for one in node.names}
                if isinstance(node, ast.ClassDef):
                    taken.add(node.name)
            for node in ast.walk(tree):
                if isinstance(node, ast.Name) and isinstance(node.ctx, ast.Store):
                    self.assertNotIn(node.id, taken, name)
                if isinstance(node, ast.arg):
                    self.assertNotIn(node.arg, taken, name)

    def own_names(self):
        """The functions, methods, classes and attributes of the package."""
        names, attributes = set(), set()
        for name, text in texts():
            for node in ast.walk(ast.parse(text)):
                if isinstance(node, (ast.FunctionDef, ast.ClassDef)):
                    names.add(node.name)
                if isinstance(node, ast.Attribute) and isinstance(node.ctx, ast.Store):
                    attributes.add(node.attr)
        return names, attributes

    def test_builtins_and_methods_are_of_those_allowed(self):
        names, attributes = self.own_names()
        for name, text in texts():
            for node in ast.walk(ast.parse(text)):
                if isinstance(node, ast.Name) and hasattr(builtins, node.id):
                    self.assertIn(node.id, BUILTINS, name)
                if isinstance(node, ast.Call) and isinstance(node.func, ast.Attribute):
                    self.assertIn(node.func.attr, names | set(METHODS), name)
                elif isinstance(node, ast.Attribute) and isinstance(node.ctx, ast.Load):
                    self.assertIn(node.attr, attributes | names | set(METHODS), name)

    def test_barred_signs_and_statements(self):
        for name, text in texts():
            for node in ast.walk(ast.parse(text)):
                self.assertNotIsInstance(node, BARRED_NODES, name)
                if isinstance(node, ast.Constant):
                    self.assertNotIsInstance(node.value, (float, complex), name)
                    if isinstance(node.value, str):
                        self.assertNotIn("%", node.value, name)
                if isinstance(node, ast.Compare):
                    for sign, other in zip(node.ops, node.comparators):
                        if isinstance(sign, (ast.Is, ast.IsNot)):
                            self.assertIn(ast.unparse(other), ("None", "True", "False"), name)

    def test_no_name_begins_with_an_underscore(self):
        for name, text in texts():
            for node in ast.walk(ast.parse(text)):
                for field in ("id", "arg", "attr", "name"):
                    word = getattr(node, field, None)
                    if isinstance(word, str):
                        self.assertTrue(word == "__init__" or not word.startswith("_"), (name, word))

    def test_no_two_files_import_from_each_other(self):
        needs = {}
        for name, text in texts():
            found = [node.module for node in ast.walk(ast.parse(text)) if isinstance(node, ast.ImportFrom)]
            needs["farend." + name[:-3]] = set(found)
        while needs:
            free = [module for module in needs if not needs[module] & set(needs)]
            self.assertTrue(free, needs)
            for module in free:
                del needs[module]

    def test_each_name_is_imported_from_the_file_that_defines_it_and_used(self):
        defined = {}
        for name, text in texts():
            for node in ast.parse(text).body:
                if isinstance(node, (ast.FunctionDef, ast.ClassDef)):
                    defined["farend." + name[:-3], node.name] = True
                if isinstance(node, ast.Assign):
                    defined["farend." + name[:-3], node.targets[0].id] = True
        for name, text in texts():
            tree = ast.parse(text)
            used = {node.id for node in ast.walk(tree) if isinstance(node, ast.Name)}
            for node in tree.body:
                if isinstance(node, ast.ImportFrom):
                    for one in node.names:
                        self.assertIn((node.module, one.name), defined, name)
                        self.assertIn(one.name, used, name)


if __name__ == "__main__":
    unittest.main()
