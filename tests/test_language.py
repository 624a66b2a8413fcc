"""The rules of LANGUAGE.md that can be read off the files without doubt."""

import ast
import builtins
import re
import unittest
from pathlib import Path

PACKAGE = Path(__file__).resolve().parent.parent / "lanternrows"
FILES = sorted(PACKAGE.rglob("*.py"))
BUILTINS = set(
    "len range enumerate zip min max sum abs sorted reversed int str bool bytes list tuple dict set frozenset "
    "isinstance ord repr any all divmod print super Exception ValueError TypeError KeyError IndexError LookupError "
    "ZeroDivisionError ArithmeticError OverflowError RuntimeError NotImplementedError AttributeError "
    "StopIteration NotImplemented".split()
)
BARRED_WORDS = (
    "type typing typing_extensions enum Enum IntEnum StrEnum Flag IntFlag Generic Protocol ABC ABCMeta namedtuple "
    "NamedTuple TypedDict TYPE_CHECKING abstractmethod"
).split()
METHODS = set(
    "append clear copy count endswith extend find get index insert isalnum isalpha isdigit islower isspace isupper "
    "items join keys ljust lower lstrip partition pop remove replace reverse rfind rjust rpartition rsplit rstrip "
    "setdefault split splitlines startswith strip update upper values zfill bit_length "
    "title capitalize swapcase casefold center expandtabs removeprefix removesuffix rindex isascii isdecimal isnumeric "
    "istitle isidentifier isprintable".split()
)
FUNCTIONS = (ast.FunctionDef, ast.AsyncFunctionDef)
BARRED_NODES = (ast.Global, ast.AsyncFunctionDef, ast.AsyncFor, ast.AsyncWith, ast.Await, ast.Div, ast.Import)


def bound_names(tree):
    """Every name that a file gives a meaning to, anywhere in it."""
    names = set()
    for node in ast.walk(tree):
        if isinstance(node, FUNCTIONS + (ast.ClassDef,)):
            names.add(node.name)
        elif isinstance(node, ast.arg):
            names.add(node.arg)
        elif isinstance(node, ast.alias):
            names.add(node.asname or node.name)
        elif isinstance(node, ast.Name) and isinstance(node.ctx, ast.Store):
            names.add(node.id)
        elif isinstance(node, ast.ExceptHandler) and node.name:
            names.add(node.name)
    return names


class Language(unittest.TestCase):
    def setUp(self):
        self.texts = {path: path.read_text(encoding="utf-8") for path in FILES}
        self.trees = {path: ast.parse(text) for path, text in self.texts.items()}

    def test_there_are_files(self):
        self.assertIn(PACKAGE / "__init__.py", FILES)

    def test_the_folder_has_nothing_else(self):
        for path in PACKAGE.rglob("*"):
            if "__pycache__" not in path.parts and path.is_file():
                self.assertRegex(path.name, r"\A[a-z0-9_]+\.py\Z")

    def test_signs_and_sizes(self):
        for path, text in self.texts.items():
            self.assertIsNone(re.search(r"[^ -~\n]", text), path)
            rows = text.split("\n")
            self.assertLessEqual(len(rows), 401, path)
            self.assertLessEqual(max(len(row) for row in rows), 120, path)

    def test_small_functions(self):
        for path, tree in self.trees.items():
            for node in ast.walk(tree):
                if isinstance(node, FUNCTIONS):
                    self.assertLessEqual(node.end_lineno - node.lineno + 1, 40, (path, node.name))

    def test_imports_are_from_the_package_by_full_names(self):
        for path, tree in self.trees.items():
            if path.name == "__main__.py":
                continue
            for node in ast.walk(tree):
                if isinstance(node, ast.ImportFrom):
                    self.assertEqual(node.level, 0, path)
                    self.assertRegex(node.module, r"\A(lanternrows(\..+)?|__future__)\Z", path)
                self.assertNotIsInstance(node, BARRED_NODES, path)

    def test_no_barred_words(self):
        for path, text in self.texts.items():
            for word in BARRED_WORDS:
                self.assertIsNone(re.search(rf"\b{word}\b", text), (path, word))
            self.assertIsNone(re.search("dataclass|overload|contextmanager", text), path)

    def test_no_numbers_with_a_point_and_no_percent_sign_in_a_text(self):
        for path, tree in self.trees.items():
            for node in ast.walk(tree):
                if isinstance(node, ast.Constant):
                    self.assertNotIsInstance(node.value, (float, complex), path)
                    if isinstance(node.value, str):
                        self.assertNotIn("%", node.value, path)

    def test_no_other_builtin_and_no_name_of_one_given_another_meaning(self):
        for path, tree in self.trees.items():
            bound = bound_names(tree)
            self.assertEqual(bound & BUILTINS, set(), path)
            read = {node.id for node in ast.walk(tree) if isinstance(node, ast.Name)}
            self.assertEqual(sorted(name for name in read - bound - BUILTINS if name != "__name__"), [], path)

    def test_plain_names(self):
        for path, tree in self.trees.items():
            for name in bound_names(tree):
                self.assertTrue(not name.startswith("_") or re.fullmatch(r"__[a-z]+__", name), (path, name))

    def test_no_variable_has_the_name_of_a_class_an_import_or_a_builtin(self):
        for path, tree in self.trees.items():
            nodes = list(ast.walk(tree))
            taken = set(dir(builtins))
            taken |= {node.asname or node.name for node in nodes if isinstance(node, ast.alias)}
            taken |= {node.name for node in nodes if isinstance(node, ast.ClassDef)}
            local = {node.arg for node in nodes if isinstance(node, ast.arg)}
            local |= {node.id for node in nodes if isinstance(node, ast.Name) and isinstance(node.ctx, ast.Store)}
            self.assertEqual(local & taken, set(), path)

    def test_each_import_names_the_file_that_defines_the_name_and_none_go_round(self):
        needs = {}
        for path, tree in self.trees.items():
            needs[path.stem] = set()
            for node in ast.walk(tree):
                if isinstance(node, ast.ImportFrom) and node.module != "__future__":
                    stem = node.module.removeprefix("lanternrows.")
                    needs[path.stem].add(stem)
                    body = self.trees[PACKAGE / f"{stem}.py"].body
                    own = {part.name for part in body if isinstance(part, (ast.FunctionDef, ast.ClassDef))}
                    own |= {target.id for part in body if isinstance(part, ast.Assign) for target in part.targets}
                    for alias in node.names:
                        self.assertIn(alias.name, own, path)
        while needs:
            ready = [stem for stem in needs if not needs[stem] & set(needs)]
            self.assertTrue(ready, needs)
            for stem in ready:
                del needs[stem]

    def test_no_other_methods_of_builtin_values(self):
        nodes = [node for tree in self.trees.values() for node in ast.walk(tree)]
        own = {node.name for node in nodes if isinstance(node, ast.FunctionDef)}
        for path, tree in self.trees.items():
            for node in ast.walk(tree):
                if isinstance(node, ast.Call) and isinstance(node.func, ast.Attribute):
                    self.assertIn(node.func.attr, METHODS | own, path)

    def test_no_name_is_a_method_and_an_attribute(self):
        nodes = [node for tree in self.trees.values() for node in ast.walk(tree)]
        classes = [node for node in nodes if isinstance(node, ast.ClassDef)]
        methods = [part.name for owner in classes for part in owner.body if isinstance(part, ast.FunctionDef)]
        assigned = {
            node.attr for node in nodes if isinstance(node, ast.Attribute) and isinstance(node.ctx, ast.Store)
        }
        self.assertEqual(assigned & set(methods), set())
        called = {node.func for node in nodes if isinstance(node, ast.Call)}
        read = {
            node.attr for node in nodes
            if isinstance(node, ast.Attribute) and isinstance(node.ctx, ast.Load) and node not in called
        }
        self.assertEqual(sorted(read - assigned), [])

    def test_no_method_of_a_builtin_value_is_an_attribute_or_a_method(self):
        kinds = (str, int, list, dict, set, bytes, tuple)
        taken = {name for kind in kinds for name in dir(kind) if not name.startswith("__")}
        for tree in self.trees.values():
            for node in ast.walk(tree):
                if isinstance(node, ast.Attribute) and isinstance(node.ctx, ast.Store):
                    self.assertNotIn(node.attr, taken)
                if isinstance(node, ast.ClassDef):
                    for part in node.body:
                        if isinstance(part, ast.FunctionDef) and not part.name.startswith("__"):
                            self.assertNotIn(part.name, taken)

    def test_module_level_has_plain_values_only(self):
        allowed = (ast.Expr, ast.ImportFrom, ast.FunctionDef, ast.ClassDef, ast.Assign)
        for path, tree in self.trees.items():
            bound = []
            for part in tree.body:
                self.assertIsInstance(part, allowed, path)
                if isinstance(part, ast.ImportFrom):
                    bound += [alias.asname or alias.name for alias in part.names]
                elif isinstance(part, ast.Assign):
                    bound += [target.id for target in part.targets]
                    self.assertFalse([node for node in ast.walk(part) if isinstance(node, (ast.Call, ast.Lambda))])
                elif isinstance(part, (ast.FunctionDef, ast.ClassDef)):
                    bound.append(part.name)
                    self.assertEqual(part.decorator_list, [])
            self.assertEqual(len(bound), len(set(bound)), path)
