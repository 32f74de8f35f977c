"""The forms of the language that a look at the code can tell: sizes, signs, imports, names."""

import ast
import pathlib
import unittest

PACKAGE = pathlib.Path(__file__).parent.parent / "likelybook"
LIBRARY = {"gcd", "lcm", "isqrt", "comb", "perm", "factorial", "product", "combinations", "permutations"}
BUILTINS = set("""
    len range enumerate zip min max sum abs sorted reversed int str bool list tuple dict set isinstance ord repr
    any all divmod map iter next ValueError LookupError ArithmeticError TypeError
""".split())
DECORATORS = {"property", "staticmethod", "classmethod"}
METHODS = set("""
    __init__ __eq__ __ne__ __str__ __repr__ __len__ __bool__ __contains__ __getitem__ __setitem__ __iter__
    __enter__ __exit__ __call__
""".split())
KINDS = (ast.FunctionDef, ast.ClassDef)


def files():
    return sorted(PACKAGE.rglob("*.py"))


def trees():
    return [(path.name, ast.parse(path.read_text("ascii"))) for path in files()]


def bound_names(tree):
    """All names that a file gives a meaning to."""
    names = {node.name for node in ast.walk(tree) if isinstance(node, KINDS)}
    names |= {node.arg for node in ast.walk(tree) if isinstance(node, ast.arg)}
    names |= {node.id for node in ast.walk(tree) if isinstance(node, ast.Name) and isinstance(node.ctx, ast.Store)}
    for node in ast.walk(tree):
        if isinstance(node, ast.ImportFrom):
            names |= {alias.name for alias in node.names}
    return names


class Language(unittest.TestCase):
    def test_the_folder_holds_nothing_else(self):
        for path in PACKAGE.rglob("*"):
            if path.name != "__pycache__" and path.parent.name != "__pycache__":
                self.assertTrue(path.is_dir() or path.suffix == ".py", path)
                self.assertEqual(path.name, path.name.lower())

    def test_signs_and_sizes(self):
        for path in files():
            text = path.read_text("ascii")
            self.assertTrue(all(sign == "\n" or " " <= sign <= "~" for sign in text), path)
            self.assertLessEqual(len(text.splitlines()), 399, path)
            self.assertLessEqual(max(len(line) for line in text.splitlines()), 120, path)

    def test_functions_are_short_and_told(self):
        for name, tree in trees():
            for node in ast.walk(tree):
                if isinstance(node, ast.FunctionDef):
                    self.assertLessEqual(node.end_lineno - node.lineno, 39, (name, node.name))
                    for decorator in node.decorator_list:
                        self.assertIn(ast.unparse(decorator).split(".")[-1], DECORATORS | {"setter"})

    def test_imports(self):
        for name, tree in trees():
            for node in ast.walk(tree):
                self.assertNotIsInstance(node, ast.Import, name)
                if isinstance(node, ast.ImportFrom):
                    self.assertIn(node, tree.body)
                    names = {alias.name for alias in node.names}
                    if not node.module.startswith("likelybook."):
                        self.assertIn(node.module, ("math", "itertools"))
                        self.assertLessEqual(names, LIBRARY)
                    self.assertEqual({alias.asname for alias in node.names}, {None})

    def test_names(self):
        for name, tree in trees():
            bound = bound_names(tree)
            read = {node.id for node in ast.walk(tree) if isinstance(node, ast.Name)}
            self.assertLessEqual(read - bound, BUILTINS | DECORATORS, name)
            self.assertEqual(bound & BUILTINS, set(), name)
            self.assertLessEqual({word for word in bound if word.startswith("__")}, METHODS, name)

    def test_what_setting_and_getting_items_bars(self):
        for path in files():
            text = path.read_text("ascii")
            for word in ("(type)", "Meta", "metaclass="):
                self.assertNotIn(word, text, path)
            for node in ast.walk(ast.parse(text)):
                if isinstance(node, ast.Attribute):
                    self.assertNotEqual(node.attr, "keys", path)
                if isinstance(node, ast.ClassDef):
                    names = {part.name for part in node.body if isinstance(part, ast.FunctionDef)}
                    self.assertNotIn("keys", names)
                    self.assertTrue("__iter__" in names or "__getitem__" not in names)

    def test_what_ends_with_statements_is_plain(self):
        for name, tree in trees():
            for node in ast.walk(tree):
                if isinstance(node, ast.FunctionDef) and node.name == "__exit__":
                    self.assertEqual(ast.unparse(node.args), "self, kind, value, trace", name)
                    for part in ast.walk(ast.Module(node.body, [])):
                        self.assertNotIsInstance(part, (ast.Call, ast.Subscript, ast.BinOp, ast.Tuple, ast.Raise), name)

    def test_is_stands_beside_none(self):
        for name, tree in trees():
            for node in ast.walk(tree):
                if isinstance(node, ast.Compare) and isinstance(node.ops[0], (ast.Is, ast.IsNot)):
                    self.assertIsNone(node.comparators[0].value, name)

    def test_no_floats_and_no_true_division(self):
        for name, tree in trees():
            for node in ast.walk(tree):
                self.assertNotIsInstance(node, ast.Div, name)
                if isinstance(node, ast.Constant):
                    self.assertNotIsInstance(node.value, (float, complex), name)

    def test_no_local_name_hides_an_import_or_a_class(self):
        for name, tree in trees():
            outer = {node.name for node in tree.body if isinstance(node, ast.ClassDef)}
            for node in tree.body:
                if isinstance(node, ast.ImportFrom):
                    outer |= {alias.name for alias in node.names}
            inner = {node.arg for node in ast.walk(tree) if isinstance(node, ast.arg)}
            inner |= {
                node.id for node in ast.walk(tree) if isinstance(node, ast.Name) and isinstance(node.ctx, ast.Store)
            }
            self.assertEqual(outer & inner, set(), name)


if __name__ == "__main__":
    unittest.main()
