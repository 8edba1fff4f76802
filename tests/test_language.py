"""The plainest rules of LANGUAGE.md over the files of the package; a first sieve, not all of them."""

import ast
import unittest
import warnings
from pathlib import Path

PACKAGE = Path(__file__).resolve().parent.parent / "forcedsteer"
FILES = sorted(PACKAGE.glob("**/*.py"))
BUILTINS = set("""
    len range enumerate zip min max sum abs sorted reversed int str bool bytes list tuple dict set frozenset
    isinstance ord repr any all divmod pow getattr hasattr setattr iter next property staticmethod classmethod
    super Exception ValueError TypeError KeyError IndexError LookupError ZeroDivisionError ArithmeticError
    OverflowError RuntimeError NotImplementedError AttributeError StopIteration NotImplemented
""".split())
BARRED = {"register", "mro", "elements", "open", "input", "law", "version_info", "with_traceback", "add_note"}
LIBRARY = {"heapq", "math", "itertools", "collections"}


def bound_names(tree):
    """All names that a file binds anywhere."""
    names = set()
    for node in ast.walk(tree):
        if isinstance(node, (ast.FunctionDef, ast.ClassDef)):
            names.add(node.name)
        elif isinstance(node, ast.alias):
            names.add(node.asname or node.name)
        elif isinstance(node, ast.arg):
            names.add(node.arg)
        elif isinstance(node, ast.Name) and not isinstance(node.ctx, ast.Load):
            names.add(node.id)
        elif isinstance(node, ast.ExceptHandler) and node.name:
            names.add(node.name)
    return names


def imported_names(tree):
    imports = [node for node in tree.body if isinstance(node, ast.ImportFrom)]
    return {alias.asname or alias.name for node in imports for alias in node.names}


def bound_in_functions(tree):
    """All names that the functions of a file bind, their parameters among them."""
    functions = [node for node in ast.walk(tree) if isinstance(node, ast.FunctionDef)]
    return set().union(*[bound_names(function) - {function.name} for function in functions])


class LanguageTest(unittest.TestCase):
    def each_file(self, check):
        """Run this check with the text and the tree of each file."""
        self.assertTrue(FILES)
        for path in FILES:
            with self.subTest(file=path.name):
                text = path.read_text(encoding="utf-8")
                check(text, ast.parse(text))

    def each_node(self, check):
        self.each_file(lambda text, tree: [check(node) for node in ast.walk(tree)])

    def test_the_folder_holds_python_alone(self):
        for path in PACKAGE.glob("**/*"):
            if "__pycache__" not in path.parts and path.is_file():
                self.assertRegex(path.name, r"\A[a-z0-9_]+\.py\Z")

    def test_characters_and_sizes(self):
        def check(text, tree):
            self.assertRegex(text, r"\A[ -~\n]*\Z")
            lines = text.split("\n")
            self.assertLessEqual(len(lines) - 1, 399)
            self.assertLessEqual(max(len(line) for line in lines), 120)
            for node in ast.walk(tree):
                if isinstance(node, ast.FunctionDef):
                    self.assertLessEqual(node.end_lineno - node.lineno + 1, 40)

        self.each_file(check)

    def test_python_gives_no_warning(self):
        def check(text, _):
            with warnings.catch_warnings():
                warnings.simplefilter("error")
                compile(text, "file", "exec")

        self.each_file(check)

    def test_imports(self):
        def check(text, tree):
            for node in ast.walk(tree):
                self.assertNotIsInstance(node, ast.Import)
                if isinstance(node, ast.ImportFrom):
                    self.assertIn(node, tree.body)
                    self.assertEqual(node.level, 0)
                    self.assertIn(node.module.split(".")[0], LIBRARY | {"forcedsteer"})
                    self.assertTrue(all(alias.name != "*" for alias in node.names))

        self.each_file(check)

    def test_module_level(self):
        def check(text, tree):
            for node in tree.body:
                self.assertIsInstance(node, (ast.ImportFrom, ast.FunctionDef, ast.ClassDef, ast.Assign, ast.Expr))
                if isinstance(node, ast.Expr):
                    self.assertIsInstance(node.value, ast.Constant)

        self.each_file(check)

    def test_names(self):
        def check(text, tree):
            bound = bound_names(tree)
            self.assertFalse(bound & (BUILTINS | BARRED))
            for node in ast.walk(tree):
                if isinstance(node, ast.Name) and node.id not in bound:
                    self.assertIn(node.id, BUILTINS)
                elif isinstance(node, ast.Attribute):
                    self.assertNotIn(node.attr, BARRED)

        self.each_file(check)

    def test_no_name_in_a_function_is_that_of_an_import_a_class_or_a_function_of_its_file(self):
        def check(text, tree):
            defined = {node.name for node in tree.body if isinstance(node, (ast.FunctionDef, ast.ClassDef))}
            self.assertFalse(bound_in_functions(tree) & (imported_names(tree) | defined))

        self.each_file(check)

    def test_each_import_names_the_file_that_defines_the_name(self):
        def check(text, tree):
            for node in tree.body:
                if isinstance(node, ast.ImportFrom) and node.module.split(".")[0] == "forcedsteer":
                    path = PACKAGE.parent.joinpath(*node.module.split(".")).with_suffix(".py")
                    told = ast.parse(path.read_text(encoding="utf-8"))
                    for alias in node.names:
                        self.assertIn(alias.name, bound_names(told) - imported_names(told))
                        self.assertIsNone(alias.asname)
                        self.assertFalse(alias.name.startswith("_"))

        self.each_file(check)

    def test_what_classes_that_compare_or_measure_rule_out(self):
        def check(node):
            self.assertNotIsInstance(node, (ast.GeneratorExp, ast.Yield, ast.YieldFrom, ast.Lambda))
            if isinstance(node, ast.Attribute):
                self.assertNotEqual(node.attr, "sort")

        self.each_node(check)

    def test_what_a_class_that_is_indexed_rules_out(self):
        def check(text, tree):
            for word in ("(type)", "Meta", "metaclass="):
                self.assertNotIn(word, text)
            for node in ast.walk(tree):
                if isinstance(node, ast.Attribute):
                    self.assertNotEqual(node.attr, "keys")
                elif isinstance(node, ast.ClassDef):
                    names = [each.name for each in node.body if isinstance(each, ast.FunctionDef)]
                    self.assertNotIn("keys", names)
                    self.assertTrue("__getitem__" not in names or "__iter__" in names)

        self.each_file(check)

    def test_only_errors_of_the_package_are_caught(self):
        own = bound_names(ast.parse((PACKAGE / "errors.py").read_text(encoding="utf-8")))

        def check(node):
            if isinstance(node, ast.ExceptHandler):
                kinds = node.type.elts if isinstance(node.type, ast.Tuple) else [node.type]
                self.assertTrue({kind.id for kind in kinds} <= own)

        self.each_node(check)

    def test_what_ends_a_with_block_only_assigns(self):
        def check(node):
            if isinstance(node, ast.FunctionDef) and node.name == "__exit__":
                for inner in ast.walk(node):
                    self.assertNotIsInstance(inner, (ast.Call, ast.Raise, ast.Return, ast.BinOp, ast.Subscript))

        self.each_node(check)

    def test_values(self):
        def check(node):
            self.assertNotIsInstance(node, (ast.Div, ast.Global, ast.AsyncFunctionDef))
            if isinstance(node, ast.Constant):
                self.assertNotIsInstance(node.value, (float, complex))
                if isinstance(node.value, str):
                    self.assertNotIn("%", node.value)

        self.each_node(check)


if __name__ == "__main__":
    unittest.main()
