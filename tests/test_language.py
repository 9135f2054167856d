"""How the package is written, as far as a plain look at its files can tell."""

import ast
import builtins
import pathlib
import unittest

PACKAGE = pathlib.Path(__file__).resolve().parent.parent / "waryrig"
BARRED_WORDS = {
    "type", "typing", "typing_extensions", "enum", "Enum", "IntEnum", "StrEnum", "Flag", "IntFlag",
    "Generic", "Protocol", "ABC", "ABCMeta", "namedtuple", "NamedTuple", "TypedDict",
    "TYPE_CHECKING", "abstractmethod", "register", "mro", "elements", "open", "input", "law",
    "print", "eval", "exec", "super", "vars", "globals", "id", "dir", "float", "complex",
}
# What may be imported from outside of the package, as far as it is used here.
LIBRARY = {"itertools": ("combinations",)}
BARRED_NODES = (
    ast.Global, ast.AsyncFunctionDef, ast.Await, ast.AsyncFor, ast.AsyncWith, ast.Div, ast.Import,
)


def trees():
    """Return pairs of a file of the package and what it says."""
    return [(file, ast.parse(file.read_text())) for file in sorted(PACKAGE.glob("*.py"))]


class Language(unittest.TestCase):

    def test_the_folder_holds_plain_files_alone(self):
        for file in PACKAGE.iterdir():
            if file.name != "__pycache__":
                self.assertRegex(file.name, "^[a-z_][a-z0-9_]*[.]py$")
        self.assertTrue((PACKAGE / "__init__.py").is_file())

    def test_sizes_and_characters(self):
        for file in PACKAGE.glob("*.py"):
            text = file.read_bytes().decode("ascii")
            lines = text.split("\n")
            with self.subTest(file.name):
                self.assertLessEqual(len(lines), 400)
                self.assertLessEqual(max(len(line) for line in lines), 120)
                self.assertFalse([sign for sign in text if sign != "\n" and not " " <= sign <= "~"])
                self.assertNotIn("_wall", text)

    def test_functions_are_short(self):
        for file, tree in trees():
            for node in ast.walk(tree):
                if isinstance(node, ast.FunctionDef):
                    self.assertLessEqual(node.end_lineno - node.lineno + 1, 40, (file, node.name))
                    self.assertFalse(node.decorator_list, (file, node.name))

    def test_imports_are_of_the_package(self):
        for file, tree in trees():
            for node in ast.walk(tree):
                self.assertNotIsInstance(node, BARRED_NODES, file)
                if isinstance(node, ast.ImportFrom) and node.module in LIBRARY:
                    for alias in node.names:
                        self.assertIsNone(alias.asname)
                        self.assertIn(alias.name, LIBRARY[node.module])
                elif isinstance(node, ast.ImportFrom):
                    self.assertRegex(node.module, "^waryrig[.]", file)
                    own = (PACKAGE / (node.module.split(".")[1] + ".py")).read_text()
                    for alias in node.names:
                        self.assertIsNone(alias.asname)
                        defined = ("def %s(", "class %s(", "class %s:", "\n%s = ")
                        self.assertTrue([1 for form in defined if form % alias.name in own])

    def test_no_two_files_import_from_each_other(self):
        imports = {}
        for file, tree in trees():
            nodes = [node for node in ast.walk(tree) if isinstance(node, ast.ImportFrom)]
            own = [node.module for node in nodes if node.module not in LIBRARY]
            imports[file.stem] = {module.split(".")[1] for module in own}
        while imports:
            last = [name for name in imports if not imports[name] & set(imports)]
            self.assertTrue(last, imports)
            for name in last:
                del imports[name]

    def test_local_names_are_no_imports_and_no_builtins(self):
        for file, tree in trees():
            nodes = list(ast.walk(tree))
            taken = set(dir(builtins))
            for node in nodes:
                if isinstance(node, ast.ImportFrom):
                    taken |= {alias.name for alias in node.names}
                if isinstance(node, ast.ClassDef):
                    taken.add(node.name)
            for node in nodes:
                if isinstance(node, ast.arg):
                    self.assertNotIn(node.arg, taken, file)
                if isinstance(node, ast.Name) and isinstance(node.ctx, ast.Store):
                    self.assertNotIn(node.id, taken, file)
                if isinstance(node, ast.FunctionDef):
                    self.assertNotIn(node.name, taken, file)

    def test_is_stands_beside_none_alone(self):
        for file, tree in trees():
            for node in ast.walk(tree):
                if isinstance(node, ast.Compare):
                    for sign, other in zip(node.ops, node.comparators):
                        if isinstance(sign, (ast.Is, ast.IsNot)):
                            self.assertTrue(isinstance(other, ast.Constant), file)
                            self.assertIsNone(other.value, file)

    def test_names_and_strings(self):
        for file, tree in trees():
            for node in ast.walk(tree):
                with self.subTest(file=file.name, node=ast.dump(node)[:80]):
                    for field in ("id", "name", "attr", "arg"):
                        self.assertNotIn(getattr(node, field, None), BARRED_WORDS)
                    if isinstance(node, ast.Constant):
                        self.assertNotIsInstance(node.value, float)
                        self.assertNotIn("%", str(node.value))

    def test_methods_and_attributes_have_unlike_names(self):
        methods, attributes = set(), set()
        for _, tree in trees():
            for node in ast.walk(tree):
                if isinstance(node, ast.ClassDef):
                    methods |= {part.name for part in node.body if isinstance(part, ast.FunctionDef)}
                elif isinstance(node, ast.Attribute) and isinstance(node.ctx, ast.Store):
                    attributes.add(node.attr)
        self.assertFalse(methods & attributes)
        self.assertTrue({"say", "sees"} <= methods)

    def test_names_of_classes_are_read_in_one_way(self):
        for file, tree in trees():
            for node in ast.walk(tree):
                if isinstance(node, ast.Attribute):
                    self.assertEqual(
                        node.attr == "__name__",
                        isinstance(node.value, ast.Attribute) and node.value.attr == "__class__", file)

    def test_what_stands_at_module_level_is_plain(self):
        for file, tree in trees():
            for node in tree.body:
                if isinstance(node, ast.Assign):
                    ast.literal_eval(node.value)
                    self.assertEqual(len(node.targets), 1, file)

    def test_nothing_runs_at_module_level(self):
        for file, tree in trees():
            for node in tree.body:
                right = (ast.ImportFrom, ast.FunctionDef, ast.ClassDef, ast.Assign)
                docstring = isinstance(node, ast.Expr) and isinstance(node.value, ast.Constant)
                self.assertTrue(isinstance(node, right) or docstring, file)


if __name__ == "__main__":
    unittest.main()
