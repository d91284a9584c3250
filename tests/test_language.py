"""Some rules of LANGUAGE.md that can be read off the package's files, and where the interface is defined."""

import ast
import builtins
import pathlib
import unittest
import warnings

PACKAGE = pathlib.Path(__file__).resolve().parent.parent / "weavepull"

INTERFACE = {
    "errors.py": ("WeaveError", "BadLine", "BadText", "NoOutlet", "LetGo", "NoSource", "Over"),
    "deeds.py": ("all_done", "all_hold", "folded"),
    "lines.py": ("looked",),
    "plain.py": ("plain",),
    "weaving.py": ("Run",),
    "needs.py": ("needs",),
    "pushing.py": ("Push",),
    "straight.py": ("straight",),
    "notes.py": ("written", "read"),
}

METHODS = {
    ("weaving.py", "Run"): {
        "__init__": ["self", "weave", "outs", "lists"], "pull": ["self", "j"], "let_go": ["self", "j"],
        "asked": ["self"], "gone": ["self"],
    },
    ("pushing.py", "Push"): {
        "__init__": ["self", "weave", "outs", "many"], "follows": ["self"], "give": ["self", "k", "item"],
        "end": ["self", "k"], "let_go": ["self", "j"], "gone": ["self"],
    },
}

ARGUMENTS = {
    ("deeds.py", "all_done"): ["deeds", "item"], ("deeds.py", "all_hold"): ["tests", "number"],
    ("deeds.py", "folded"): ["word", "one", "other"], ("lines.py", "looked"): ["weave", "many"],
    ("plain.py", "plain"): ["weave", "lists"], ("needs.py", "needs"): ["weave", "outs", "counts", "lists"],
    ("straight.py", "straight"): ["weave", "outs"], ("notes.py", "written"): ["weave"], ("notes.py", "read"): ["text"],
}

# Those of L8 that the package may need; an addition is looked up there first.
BUILTINS = (
    "len", "range", "enumerate", "zip", "min", "max", "sum", "abs", "sorted", "reversed", "int", "str", "bool",
    "list", "tuple", "dict", "set", "isinstance", "any", "all", "divmod", "super", "ValueError", "KeyError",
    "Exception",
)

# Names that L17 bars.
BARRED = (
    "type", "typing", "enum", "Enum", "Flag", "Generic", "Protocol", "ABC", "namedtuple", "register", "mro", "elements",
    "open", "input", "law",
)

OUTSIDE = {"heapq", "math", "itertools", "collections"}


def files():
    """The package's files with their texts."""
    return [(path, path.read_bytes().decode("utf-8")) for path in sorted(PACKAGE.glob("*.py"))]


def trees():
    return [(path, ast.parse(text)) for path, text in files()]


class LanguageTests(unittest.TestCase):
    def test_folder_contains_nothing_else(self):
        others = [path.name for path in PACKAGE.iterdir() if path.suffix != ".py" and path.name != "__pycache__"]
        self.assertEqual(others, [])
        self.assertTrue((PACKAGE / "__init__.py").exists())

    def test_size_and_characters(self):
        for path, text in files():
            self.assertLessEqual(len(text.splitlines()), 399, path)
            for row, line in enumerate(text.split("\n"), 1):
                self.assertLessEqual(len(line), 120, (path, row))
                self.assertTrue(all(" " <= sign <= "~" for sign in line), (path, row))

    def test_no_warning_of_python_itself(self):
        with warnings.catch_warnings():
            warnings.simplefilter("error")
            for path, text in files():
                compile(text, str(path), "exec")

    def test_functions_are_small(self):
        for path, tree in trees():
            for node in ast.walk(tree):
                if isinstance(node, ast.FunctionDef):
                    self.assertLessEqual(node.end_lineno - node.lineno + 1, 40, (path, node.name))

    def test_module_level(self):
        plain = (ast.ImportFrom, ast.FunctionDef, ast.ClassDef, ast.Assign)
        for path, tree in trees():
            for at, node in enumerate(tree.body):
                docstring = at == 0 and isinstance(node, ast.Expr) and isinstance(node.value, ast.Constant)
                self.assertTrue(docstring or isinstance(node, plain), (path, node.lineno))
                if isinstance(node, ast.Assign):
                    calls = [part for part in ast.walk(node) if isinstance(part, ast.Call)]
                    self.assertEqual(calls, [], (path, node.lineno))

    def test_imports(self):
        for path, tree in trees():
            for node in ast.walk(tree):
                self.assertNotIsInstance(node, ast.Import, path)
                if isinstance(node, ast.ImportFrom):
                    self.assertIn(node, tree.body, (path, node.lineno))
                    self.assertEqual(node.level, 0, (path, node.lineno))
                    if node.module not in OUTSIDE:
                        self.defined_there(node, path)

    def defined_there(self, node, path):
        package, _, name = node.module.partition(".")
        self.assertEqual(package, "weavepull", (path, node.lineno))
        tree = ast.parse((PACKAGE / (name + ".py")).read_text())
        for alias in node.names:
            self.assertIn(alias.name, defined(tree), (path, node.lineno))

    def test_builtins(self):
        for path, tree in trees():
            for node in ast.walk(tree):
                if isinstance(node, ast.Name) and hasattr(builtins, node.id):
                    self.assertIn(node.id, BUILTINS, (path, node.lineno))
                    self.assertIsInstance(node.ctx, ast.Load, (path, node.lineno))

    def test_interface_is_defined_in_its_files(self):
        for name, words in INTERFACE.items():
            tree = ast.parse((PACKAGE / name).read_text())
            made = [node.name for node in tree.body if isinstance(node, (ast.FunctionDef, ast.ClassDef))]
            for word in words:
                self.assertIn(word, made, name)

    def test_methods_are_defined_in_their_classes(self):
        for (name, word), methods in METHODS.items():
            tree = ast.parse((PACKAGE / name).read_text())
            body = [node for node in tree.body if isinstance(node, ast.ClassDef) and node.name == word][0].body
            made = [node for node in body if isinstance(node, ast.FunctionDef)]
            found = {node.name: [arg.arg for arg in node.args.args] for node in made}
            for method, arguments in methods.items():
                self.assertEqual(found.get(method), arguments, (word, method))

    def test_arguments_of_functions(self):
        for (name, word), arguments in ARGUMENTS.items():
            tree = ast.parse((PACKAGE / name).read_text())
            found = [[arg.arg for arg in node.args.args] for node in tree.body
                     if isinstance(node, ast.FunctionDef) and node.name == word]
            self.assertEqual(found, [arguments], word)

    def test_no_barred_names(self):
        for path, tree in trees():
            for node in ast.walk(tree):
                for field in ("id", "attr", "arg", "name"):
                    self.assertNotIn(getattr(node, field, None), BARRED, (path, node))

    def test_no_name_is_a_method_and_an_attribute(self):
        methods, attributes = set(), set()
        for _, tree in trees():
            for node in ast.walk(tree):
                if isinstance(node, ast.ClassDef):
                    methods.update(part.name for part in node.body if isinstance(part, ast.FunctionDef))
                if isinstance(node, ast.Attribute) and isinstance(node.ctx, ast.Store):
                    attributes.add(node.attr)
        self.assertEqual(methods & attributes, set())

    def test_no_two_files_import_from_each_other(self):
        imported = {}
        for path, tree in trees():
            froms = [node.module for node in tree.body if isinstance(node, ast.ImportFrom)]
            imported[path.stem] = [module.split(".")[1] for module in froms if module.startswith("weavepull.")]
        for stem in imported:
            reached = list(imported[stem])
            for other in reached:
                reached.extend(more for more in imported[other] if more not in reached)
            self.assertNotIn(stem, reached)


def defined(tree):
    """The names that a file defines itself."""
    names = []
    for node in tree.body:
        if isinstance(node, (ast.FunctionDef, ast.ClassDef)):
            names.append(node.name)
        if isinstance(node, ast.Assign):
            names.extend(target.id for target in node.targets)
    return names


if __name__ == "__main__":
    unittest.main()
