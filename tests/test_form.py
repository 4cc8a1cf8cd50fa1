"""The form of the code: those rules of LANGUAGE.md that are quickly checked by a program."""

import ast
import pathlib
import unittest
import warnings

PACKAGE = pathlib.Path(__file__).resolve().parent.parent / "eitherhand"
BUILTINS = set(
    "len range enumerate zip min max sum abs sorted reversed int str bool list tuple dict set isinstance ord repr any "
    "all divmod pow iter next map type getattr hasattr setattr super property classmethod staticmethod Exception "
    "ValueError TypeError KeyError IndexError LookupError ZeroDivisionError ArithmeticError OverflowError RuntimeError "
    "NotImplementedError AttributeError StopIteration NotImplemented".split()
)
LIBRARY = {
    "heapq": {"heappush", "heappop", "heapify", "heapreplace", "heappushpop"},
    "math": {"gcd", "lcm", "isqrt", "comb", "perm", "factorial"},
    "itertools": {"product", "combinations", "permutations", "chain", "accumulate", "pairwise", "islice",
                  "zip_longest"},
    "collections": {"defaultdict", "deque"},
}


def files():
    """The files of the package."""
    return sorted(path for path in PACKAGE.rglob("*") if path.is_file() and "__pycache__" not in path.parts)


def trees():
    """The files, each with what it is parsed to."""
    return [(path, ast.parse(path.read_text())) for path in files()]


def bound_names(tree):
    """All names that a file binds anywhere."""
    names = set()
    for node in ast.walk(tree):
        if isinstance(node, (ast.FunctionDef, ast.ClassDef)):
            names.add(node.name)
        elif isinstance(node, ast.alias):
            names.add(node.name)
        elif isinstance(node, ast.arg):
            names.add(node.arg)
        elif isinstance(node, ast.Name) and not isinstance(node.ctx, ast.Load):
            names.add(node.id)
    return names


class FormTest(unittest.TestCase):
    def test_files(self):
        for path in files():
            self.assertRegex(path.name, r"^[a-z0-9_]+\.py$")
            self.assertTrue((path.parent / "__init__.py").is_file(), path)

    def test_sizes_and_characters(self):
        for path in files():
            lines = path.read_bytes().decode("ascii").split("\n")
            self.assertLess(len(lines), 400, path)
            for line in lines:
                self.assertLessEqual(len(line), 120, path)
                self.assertTrue(all(" " <= sign <= "~" for sign in line), path)
        for path, tree in trees():
            for node in ast.walk(tree):
                if isinstance(node, ast.FunctionDef):
                    self.assertLessEqual(node.end_lineno - node.lineno + 1, 40, (path, node.name))

    def test_imports_stand_at_the_top_and_name_the_package(self):
        for path, tree in trees():
            body = [node for node in tree.body if not isinstance(node, ast.Expr)]
            heads = [isinstance(node, ast.ImportFrom) for node in body]
            self.assertEqual(heads, sorted(heads, reverse=True), path)
            for node in ast.walk(tree):
                self.assertNotIsInstance(node, ast.Import)
                if isinstance(node, ast.ImportFrom):
                    known = node.module in LIBRARY or node.module.startswith("eitherhand.")
                    self.assertTrue(node.level == 0 and known, path)
                    self.assertTrue(all(alias.asname is None and alias.name != "*" for alias in node.names), path)

    def test_an_import_names_the_file_that_defines_the_name(self):
        for path, tree in trees():
            for node in ast.walk(tree):
                if isinstance(node, ast.ImportFrom):
                    names = {alias.name for alias in node.names}
                    self.assertLessEqual(names, LIBRARY.get(node.module) or self.defined(node.module), path)

    def defined(self, module):
        """The names that a file of the package defines."""
        source = PACKAGE.parent.joinpath(*module.split(".")).with_suffix(".py")
        names = set()
        for made in ast.parse(source.read_text()).body:
            if isinstance(made, (ast.FunctionDef, ast.ClassDef)):
                names.add(made.name)
            elif isinstance(made, ast.Assign):
                names.add(made.targets[0].id)
        return names

    def test_only_known_names_are_used(self):
        for path, tree in trees():
            bound = bound_names(tree)
            self.assertFalse(bound & BUILTINS, path)
            for node in ast.walk(tree):
                if isinstance(node, ast.Name):
                    self.assertIn(node.id, bound | BUILTINS, path)

    def test_kinds_of_statements_and_values(self):
        barred = (ast.AsyncFunctionDef, ast.AsyncFor, ast.AsyncWith, ast.Await, ast.Div)
        for path, tree in trees():
            for node in ast.walk(tree):
                self.assertNotIsInstance(node, barred, path)
                if isinstance(node, ast.Constant):
                    self.assertNotIsInstance(node.value, (float, complex), path)
                    self.assertNotIn("%", node.value if isinstance(node.value, str) else "", path)
                if isinstance(node, ast.FunctionDef):
                    told = {item.id if isinstance(item, ast.Name) else item.attr for item in node.decorator_list}
                    self.assertLessEqual(told, {"property", "classmethod", "staticmethod", "setter"}, path)

    def test_python_itself_gives_no_warning(self):
        with warnings.catch_warnings():
            warnings.simplefilter("error")
            for path in files():
                compile(path.read_text(), str(path), "exec")


if __name__ == "__main__":
    unittest.main()
