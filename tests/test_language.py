"""The rules of the language that can be read off the files: L1, L2, L3, L8, L10, L14, L15 and L17."""
import ast
import unittest
from pathlib import Path

PACKAGE = Path(__file__).resolve().parent.parent / "faultdue"
FILES = sorted(PACKAGE.glob("*.py"))
LIBRARY = {
    "heapq": {"heappush", "heappop", "heapify", "heapreplace", "heappushpop"},
    "math": {"gcd", "lcm", "isqrt", "comb", "perm", "factorial"},
    "itertools": {"product", "combinations", "permutations", "chain", "accumulate", "pairwise", "islice",
                  "zip_longest"},
    "collections": {"defaultdict"},
}
BUILTINS = set(
    "len range enumerate zip min max sum abs sorted reversed int str bool bytes list tuple dict set frozenset isinstance"
    " ord repr any all divmod pow iter next map getattr hasattr setattr".split()
)
BARRED = set(
    "register mro elements open input law version_info with_traceback add_note attrgetter breakpoint builtins compile"
    " copyright credits delattr dir eval exec exit gc globals help id importlib license locals methodcaller os quit"
    " type vars sys".split()
)


def tree_of(path):
    return ast.parse(path.read_text(encoding="utf-8"))


def bound_names(tree):
    """All names that a file binds: functions, classes, parameters, variables and attributes."""
    for node in ast.walk(tree):
        if isinstance(node, (ast.FunctionDef, ast.ClassDef)):
            yield node.name
        elif isinstance(node, ast.arg):
            yield node.arg
        elif isinstance(node, (ast.Name, ast.Attribute)) and isinstance(node.ctx, ast.Store):
            yield node.id if isinstance(node, ast.Name) else node.attr


class LanguageTest(unittest.TestCase):
    def test_folder_holds_python_files_alone(self):
        others = [path.name for path in PACKAGE.iterdir() if path not in FILES and path.name != "__pycache__"]
        self.assertEqual(others, [])
        self.assertIn(PACKAGE / "__init__.py", FILES)

    def test_characters_and_sizes(self):
        for path in FILES:
            text = path.read_bytes().decode("ascii")
            self.assertTrue(all(char == "\n" or " " <= char <= "~" for char in text), path)
            self.assertLessEqual(len(text.splitlines()), 399, path)
            self.assertLessEqual(max(map(len, text.splitlines())), 120, path)

    def test_functions_have_at_most_40_lines(self):
        for path in FILES:
            for node in ast.walk(tree_of(path)):
                if isinstance(node, ast.FunctionDef):
                    self.assertLessEqual(node.end_lineno - node.lineno + 1, 40, (path, node.name))

    def test_imports(self):
        for path in FILES:
            for node in ast.walk(tree_of(path)):
                self.assertNotIsInstance(node, ast.Import, path)
                if isinstance(node, ast.ImportFrom):
                    self.assert_import(path, node)

    def assert_import(self, path, node):
        self.assertEqual(node.level, 0, path)
        names = {alias.name for alias in node.names}
        if node.module in LIBRARY:
            self.assertLessEqual(names, LIBRARY[node.module], path)
        else:
            self.assertTrue(node.module.startswith("faultdue."), (path, node.module))
            source = PACKAGE / (node.module.partition(".")[2] + ".py")
            self.assertLessEqual(names, set(bound_names(tree_of(source))), path)

    def test_names(self):
        for path in FILES:
            names = set(bound_names(tree_of(path)))
            self.assertEqual(names & (BUILTINS | BARRED), set(), path)

    def test_statements_at_module_level(self):
        for path in FILES:
            names = []
            for node in tree_of(path).body:
                if isinstance(node, ast.Assign):
                    self.assertEqual([ast.Name], [target.__class__ for target in node.targets], (path, node.lineno))
                    names.append(node.targets[0].id)
                elif isinstance(node, ast.ImportFrom):
                    names.extend([alias.name for alias in node.names])
                elif isinstance(node, (ast.FunctionDef, ast.ClassDef)):
                    names.append(node.name)
                else:
                    self.assertIsInstance(node.value, ast.Constant, (path, node.lineno))
            self.assertEqual(len(names), len(set(names)), path)

    def test_names_in_functions_are_no_imports_and_no_classes(self):
        for path in FILES:
            tree = tree_of(path)
            taken = {alias.name for node in tree.body if isinstance(node, ast.ImportFrom) for alias in node.names}
            taken |= {node.name for node in tree.body if isinstance(node, ast.ClassDef)}
            for function in ast.walk(tree):
                if isinstance(function, ast.FunctionDef):
                    inside = {node.id for node in ast.walk(function)
                              if isinstance(node, ast.Name) and isinstance(node.ctx, ast.Store)}
                    inside |= {node.arg for node in ast.walk(function) if isinstance(node, ast.arg)}
                    self.assertEqual(inside & taken, set(), (path, function.name))

    def test_no_percent_sign_and_no_float_in_values(self):
        for path in FILES:
            for node in ast.walk(tree_of(path)):
                if isinstance(node, ast.Constant):
                    self.assertNotIsInstance(node.value, float, path)
                    self.assertNotIn("%", str(node.value), path)
                self.assertNotIsInstance(node, ast.Div, path)


if __name__ == "__main__":
    unittest.main()
