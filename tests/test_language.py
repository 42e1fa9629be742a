"""The package keeps to the plainest rules of the language: files, signs, sizes, imports, names, words and sets."""

import ast
import builtins
import os
import re
import unittest

HERE = os.path.dirname(os.path.dirname(os.path.abspath(__file__)))
PACKAGE = os.path.join(HERE, "bellplaces")

BUILTINS = set("""
    len range enumerate zip min max sum abs sorted reversed int str bool bytes list tuple dict set isinstance ord
    repr any all divmod ValueError KeyError IndexError LookupError ZeroDivisionError
""".split())
METHODS = set("""
    append clear copy count endswith extend find get index insert isalnum isalpha isdigit islower isspace isupper
    items join keys ljust lower lstrip partition pop remove replace reverse rfind rjust rpartition rsplit rstrip
    setdefault split splitlines startswith strip update upper values zfill bit_length
""".split())
BARRED = re.compile(r"\b(type|typing|typing_extensions|enum|Enum|IntEnum|StrEnum|Flag|IntFlag|Generic|Protocol|ABC"
                    r"|ABCMeta|namedtuple|NamedTuple|TypedDict|TYPE_CHECKING|abstractmethod)\b"
                    r"|dataclass|overload|contextmanager")
NODES = (ast.Global, ast.AsyncFunctionDef, ast.AsyncFor, ast.AsyncWith, ast.Await, ast.Import, ast.Div)
# Rule 17: names that are used nowhere, and names that are not given to variables, functions and the like.
UNUSED = set("""
    register mro elements open input version_info with_traceback add_note attrgetter breakpoint builtins compile
    copyright credits delattr dir eval exec exit gc getattr globals hasattr help id importlib license locals
    methodcaller os quit setattr super type vars sys
""".split())
PLAIN_NAME = re.compile(r"[A-Za-z][A-Za-z0-9_]*\Z")


def package_files():
    """Name, text and tree of each file of the package."""
    for name in sorted(os.listdir(PACKAGE)):
        if name != "__pycache__":
            with open(os.path.join(PACKAGE, name), encoding="utf-8") as file:
                text = file.read()
            yield name, text, ast.parse(text)


def bound_names(tree):
    """All names that the file gives to something."""
    for node in ast.walk(tree):
        if isinstance(node, ast.Name) and isinstance(node.ctx, ast.Store):
            yield node.id
        elif isinstance(node, ast.arg):
            yield node.arg
        elif isinstance(node, (ast.FunctionDef, ast.ClassDef)):
            yield node.name
        elif isinstance(node, ast.Attribute) and isinstance(node.ctx, ast.Store):
            yield node.attr


class TestLanguage(unittest.TestCase):
    def test_files(self):
        for name, text, tree in package_files():
            with self.subTest(name=name):
                self.assertRegex(name, r"\A([a-z][a-z0-9_]*|__init__)\.py\Z")
                self.assertNotIn(name[:-3], dir(builtins))
                self.assertTrue(all(sign == "\n" or " " <= sign <= "~" for sign in text))
                self.assertLessEqual(text.count("\n"), 400)
                self.assertLessEqual(max(len(line) for line in text.split("\n")), 120)

    def test_sizes_of_functions(self):
        for name, text, tree in package_files():
            for node in ast.walk(tree):
                if isinstance(node, ast.FunctionDef):
                    self.assertLessEqual(node.end_lineno - node.lineno + 1, 40, (name, node.name))

    def test_words_and_strings(self):
        for name, text, tree in package_files():
            self.assertIsNone(BARRED.search(text), name)
            for node in ast.walk(tree):
                if isinstance(node, ast.Constant):
                    self.assertNotIsInstance(node.value, float)
                    self.assertNotIn("%", str(node.value))

    def test_statements_and_imports(self):
        for name, text, tree in package_files():
            for node in ast.walk(tree):
                self.assertNotIsInstance(node, NODES, name)
                if isinstance(node, ast.ImportFrom):
                    self.assertTrue(node.module.startswith("bellplaces."), name)
                    self.assertIn(node, tree.body)
                    for alias in node.names:
                        self.assertIn(alias.name, self.defined_in(node.module))
                if isinstance(node, ast.Compare):
                    for sign, side in zip(node.ops, node.comparators):
                        if isinstance(sign, (ast.Is, ast.IsNot)):
                            self.assertIn(getattr(side, "value", 0), (None, True, False), name)

    def defined_in(self, module):
        with open(os.path.join(HERE, *module.split(".")) + ".py", encoding="utf-8") as file:
            tree = ast.parse(file.read())
        names = []
        for node in tree.body:
            if isinstance(node, (ast.FunctionDef, ast.ClassDef)):
                names.append(node.name)
            elif isinstance(node, ast.Assign):
                names += [target.id for target in node.targets]
        return names

    def test_names(self):
        for name, text, tree in package_files():
            for bound in bound_names(tree):
                if bound != "__init__":
                    self.assertRegex(bound, PLAIN_NAME, name)
            for node in ast.walk(tree):
                if isinstance(node, ast.Name) and hasattr(builtins, node.id):
                    self.assertIsInstance(node.ctx, ast.Load, (name, node.id))
                    self.assertIn(node.id, BUILTINS, name)
                if isinstance(node, ast.arg):
                    self.assertFalse(hasattr(builtins, node.arg), (name, node.arg))

    def test_names_that_are_not_used(self):
        for name, text, tree in package_files():
            self.assertEqual(UNUSED & set(bound_names(tree)), set(), name)

    def test_no_name_inside_hides_a_class_or_an_import_or_an_own_function(self):
        for name, text, tree in package_files():
            outer = {part.name for part in tree.body if isinstance(part, (ast.FunctionDef, ast.ClassDef))}
            for node in tree.body:
                if isinstance(node, ast.ImportFrom):
                    outer |= {alias.name for alias in node.names}
            for node in ast.walk(tree):
                if isinstance(node, ast.FunctionDef):
                    inner = {part.id for part in ast.walk(node)
                             if isinstance(part, ast.Name) and isinstance(part.ctx, ast.Store)}
                    inner |= {part.arg for part in ast.walk(node) if isinstance(part, ast.arg)}
                    self.assertEqual(inner & outer, set(), (name, node.name))

    def test_no_two_files_import_from_each_other(self):
        above = {}
        for name, text, tree in package_files():
            above["bellplaces." + name[:-3]] = {node.module for node in tree.body if isinstance(node, ast.ImportFrom)}
        while above:
            free = [module for module in above if not above[module] & set(above)]
            self.assertTrue(free, sorted(above))
            for module in free:
                del above[module]

    def test_comprehensions_and_sets_stand_in_functions_and_sets_are_sorted_or_measured_at_once(self):
        for name, text, tree in package_files():
            for part in tree.body:
                if isinstance(part, ast.Assign):
                    for node in ast.walk(part):
                        self.assertNotIsInstance(node, (ast.ListComp, ast.SetComp, ast.DictComp, ast.GeneratorExp))
            placed = []
            for node in ast.walk(tree):
                if isinstance(node, ast.Call) and getattr(node.func, "id", "") in ("sorted", "len"):
                    placed += node.args
            for node in ast.walk(tree):
                made = isinstance(node, ast.Call) and getattr(node.func, "id", "") == "set"
                if made or isinstance(node, (ast.SetComp, ast.Set)):
                    self.assertIn(node, placed, (name, node.lineno))

    def test_methods_that_are_called(self):
        own = {"__init__"}
        for name, text, tree in package_files():
            for node in ast.walk(tree):
                if isinstance(node, ast.ClassDef):
                    own |= {part.name for part in node.body if isinstance(part, ast.FunctionDef)}
        for name, text, tree in package_files():
            for node in ast.walk(tree):
                if isinstance(node, ast.Call) and isinstance(node.func, ast.Attribute):
                    self.assertIn(node.func.attr, METHODS | own, name)


if __name__ == "__main__":
    unittest.main()
