"""The form of the code: those rules of LANGUAGE.md that are quickly checked by a program."""

import ast
import pathlib
import unittest
import warnings

PACKAGE = pathlib.Path(__file__).resolve().parent.parent / "eitherhand"
BUILTINS = set(
    "len range enumerate zip min max sum abs sorted reversed int str bool list tuple dict set isinstance ord repr any "
    "all divmod pow iter next map type getattr hasattr setattr super property classmethod staticmethod Exception "
    "ValueError TypeError KeyError IndexError LookupError ZeroDivisionError ArithmeticError OverflowError RuntimeError "
    "NotImplementedError AttributeError StopIteration NotImplemented".split()
)
LIBRARY = {
    "heapq": {"heappush", "heappop", "heapify", "heapreplace", "heappushpop"},
    "math": {"gcd", "lcm", "isqrt", "comb", "perm", "factorial"},
    "itertools": {"product", "combinations", "permutations", "chain", "accumulate", "pairwise", "islice",
                  "zip_longest"},
    "collections": {"defaultdict", "deque"},
}


def files():
    """The files of the package."""
    return sorted(path for path in PACKAGE.rglob("*") if path.is_file() and "__pycache__" not in path.parts)


def trees():
    """The files, each with what it is parsed to."""
    return [(path, ast.parse(path.read_text())) for path in files()]


def bound_names(tree):
    """All names that a file binds anywhere."""
    names = set()
    for node in ast.walk(tree):
        if isinstance(node, (ast.FunctionDef, ast.ClassDef)):
            names.add(node.name)
        elif isinstance(node, ast.alias):
            names.add(node.name)
        elif isinstance(node, ast.arg):
            names.add(node.arg)
        elif isinstance(node, ast.Name) and not isinstance(node.ctx, ast.Load):
            names.add(node.id)
    return names


class FormTest(unittest.TestCase):
    def test_files(self):
        for path in files():
            self.assertRegex(path.name, r"^[a-z0-9_]+\.py$")
            self.assertTrue((path.parent / "__init__.py").is_file(), path)

    def test_sizes_and_characters(self):
        for path in files():
            lines = path.read_bytes().decode("ascii").split("\n")
            self.assertLess(len(lines), 400, path)
            for line in lines:
                self.assertLessEqual(len(line), 120, path)
                self.assertTrue(all(" " <= sign <= "~" for sign in line), path)
        for path, tree in trees():
            for node in ast.walk(tree):
                if isinstance(node, ast.FunctionDef):
                    self.assertLessEqual(node.end_lineno - node.lineno + 1, 40, (path, node.name))

    def test_imports_stand_at_the_top_and_name_the_package(self):
        for path, tree in trees():
            body = [node for node in tree.body if not isinstance(node, ast.Expr)]
            heads = [isinstance(node, ast.ImportFrom) for node in body]
            self.assertEqual(heads, sorted(heads, reverse=True), path)
            for node in ast.walk(tree):
                self.assertNotIsInstance(node, ast.Import)
                if isinstance(node, ast.ImportFrom):
                    known = node.module in LIBRARY or node.module.startswith("eitherhand.")
                    self.assertTrue(node.level == 0 and known, path)
                    self.assertTrue(all(alias.asname is None and alias.name != "*" for alias in node.names), path)

    def test_an_import_names_the_file_that_defines_the_name(self):
        for path, tree in trees():
            for node in ast.walk(tree):
                if isinstance(node, ast.ImportFrom):
                    names = {alias.name for alias in node.names}
                    self.assertLessEqual(names, LIBRARY.get(node.module) or self.defined(node.module), path)

    def defined(self, module):
        """The names that a file of the package defines."""
        source = PACKAGE.parent.joinpath(*module.split(".")).with_suffix(".py")
        names = set()
        for made in ast.parse(source.read_text()).body:
            if isinstance(made, (ast.FunctionDef, ast.ClassDef)):
                names.add(made.name)
            elif isinstance(made, ast.Assign):
                names.add(made.targets[0].id)
        return names

    def test_only_known_names_are_used(self):
        for path, tree in trees():
            bound = bound_names(tree)
            self.assertFalse(bound & BUILTINS, path)
            for node in ast.walk(tree):
                if isinstance(node, ast.Name):
                    self.assertIn(node.id, bound | BUILTINS, path)

    def test_kinds_of_statements_and_values(self):
        barred = (ast.AsyncFunctionDef, ast.AsyncFor, ast.AsyncWith, ast.Await, ast.Div)
        for path, tree in trees():
            for node in ast.walk(tree):
                self.assertNotIsInstance(node, barred, path)
                if isinstance(node, ast.Constant):
                    self.assertNotIsInstance(node.value, (float, complex), path)
                    self.assertNotIn("%", node.value if isinstance(node.value, str) else "", path)
                if isinstance(node, ast.FunctionDef):
                    told = {item.id if isinstance(item, ast.Name) else item.attr for item in node.decorator_list}
                    self.assertLessEqual(told, {"property", "classmethod", "staticmethod", "setter"}, path)

    def test_what_is_given_to_builtins(self):
        known = {"list", "tuple", "sorted", "range"}
        for path, tree in trees():
            calls = [node for node in ast.walk(tree) if isinstance(node, ast.Call) and isinstance(node.func, ast.Name)]
            for node in calls:
                first = node.args[0] if node.args else None
                if node.func.id in ("any", "all", "min", "max", "sum", "sorted"):
                    self.assertNotIsInstance(first, ast.GeneratorExp, (path, node.lineno))
                if node.func.id == "reversed":
                    self.assertTrue(isinstance(first, ast.Call) and first.func.id in known, (path, node.lineno))
                if node.func.id == "isinstance":
                    self.assertIsInstance(node.args[1], (ast.Name, ast.Tuple), (path, node.lineno))

    def test_methods_of_builtin_values(self):
        let = set("append extend get index items join partition pop replace setdefault split startswith values".split())
        own = {node.name for _, tree in trees() for node in ast.walk(tree) if isinstance(node, ast.FunctionDef)}
        for path, tree in trees():
            for node in ast.walk(tree):
                if isinstance(node, ast.Call) and isinstance(node.func, ast.Attribute):
                    self.assertIn(node.func.attr, let | own, (path, node.lineno))

    def test_generators_have_names_of_their_own(self):
        names = [node.name for _, tree in trees() for node in ast.walk(tree) if isinstance(node, ast.FunctionDef)]
        found = set()
        for path, tree in trees():
            for node in ast.walk(tree):
                if isinstance(node, ast.FunctionDef):
                    if any(isinstance(inner, (ast.Yield, ast.YieldFrom)) for inner in ast.walk(node)):
                        self.assertEqual(names.count(node.name), 1, (path, node.name))
                        found.add(node.name)
        self.assertEqual(found, {"worlds", "delays", "sound_runs", "runs"})
        used = [node.id for _, tree in trees() for node in ast.walk(tree) if isinstance(node, ast.Name)]
        self.assertFalse(found & {"delays", "sound_runs"} & set(used))

    def test_properties_share_no_name_with_methods_or_stored_attributes(self):
        properties, methods, stored = set(), set(), set()
        for _, tree in trees():
            for node in ast.walk(tree):
                if isinstance(node, ast.ClassDef):
                    for made in node.body:
                        if isinstance(made, ast.FunctionDef):
                            (properties if self.is_property(made) else methods).add(made.name)
                if isinstance(node, ast.Attribute) and isinstance(node.ctx, ast.Store):
                    stored.add(node.attr)
        self.assertFalse(properties & methods)
        self.assertFalse(properties & stored)
        self.assertFalse(methods & stored)

    def is_property(self, made):
        return any(isinstance(one, ast.Name) and one.id == "property" for one in made.decorator_list)

    def test_no_local_name_is_that_of_a_class_or_an_import(self):
        for path, tree in trees():
            fixed = {node.name for node in ast.walk(tree) if isinstance(node, (ast.ClassDef, ast.alias))}
            for node in ast.walk(tree):
                if isinstance(node, ast.arg):
                    self.assertNotIn(node.arg, fixed, (path, node.lineno))
                if isinstance(node, ast.Name) and isinstance(node.ctx, ast.Store):
                    self.assertNotIn(node.id, fixed, (path, node.lineno))

    def test_no_two_files_import_from_each_other(self):
        needs = {}
        for path, tree in trees():
            name = ".".join(path.relative_to(PACKAGE.parent).with_suffix("").parts)
            needs[name] = {node.module for node in tree.body if isinstance(node, ast.ImportFrom)}
        left = set(needs)
        while left:
            free = {name for name in left if not needs[name] & left}
            self.assertTrue(free, left)
            left -= free

    def test_nothing_is_imported_without_use(self):
        for path, tree in trees():
            told = {alias.name for node in tree.body if isinstance(node, ast.ImportFrom) for alias in node.names}
            used = {node.id for node in ast.walk(tree) if isinstance(node, ast.Name)}
            self.assertLessEqual(told, used, path)

    def test_lists_and_dicts_of_a_module_are_only_read(self):
        tables = {}
        for path, tree in trees():
            for node in tree.body:
                if isinstance(node, ast.Assign) and isinstance(node.value, (ast.Dict, ast.List)):
                    tables[node.targets[0].id] = path
        self.assertIn("SIGNS", tables)
        for path, tree in trees():
            around = {inner: node for node in ast.walk(tree) for inner in ast.iter_child_nodes(node)}
            for node in ast.walk(tree):
                if isinstance(node, ast.Name) and isinstance(node.ctx, ast.Load) and node.id in tables:
                    outer = around[node]
                    read = isinstance(outer, ast.Subscript) and outer.value is node and isinstance(outer.ctx, ast.Load)
                    asked = isinstance(outer, ast.Compare) and all(isinstance(one, (ast.In, ast.NotIn)) for one in outer.ops)
                    self.assertTrue(read or asked, (path, node.lineno, node.id))

    def test_what_is_iterated_at_once(self):
        takes = {"list", "tuple", "dict", "sorted", "sum", "any", "all", "enumerate", "zip", "min", "max", "reversed", "len"}
        for path, tree in trees():
            around = {inner: node for node in ast.walk(tree) for inner in ast.iter_child_nodes(node)}
            for node in ast.walk(tree):
                if not isinstance(node, ast.Call):
                    continue
                word = node.func.id if isinstance(node.func, ast.Name) else getattr(node.func, "attr", "")
                own = isinstance(node.func, ast.Attribute) and word in ("items", "keys", "values")
                if not own and not (isinstance(node.func, ast.Name) and word in ("range", "zip", "enumerate", "reversed")):
                    continue
                outer = around[node]
                looped = isinstance(outer, (ast.For, ast.comprehension)) and outer.iter is node
                given = isinstance(outer, ast.Call) and isinstance(outer.func, ast.Name) and outer.func.id in takes
                kept = word == "range" and isinstance(outer, ast.Assign)
                self.assertTrue(looped or given or kept, (path, node.lineno))

    def test_words_that_do_not_occur(self):
        barred = set(
            "register mro elements open input law version_info with_traceback add_note type typing enum Enum Flag Generic "
            "Protocol ABC namedtuple dataclass overload contextmanager attrgetter builtins compile dir eval exec exit gc "
            "globals help id importlib license locals os quit sys vars hash round filter".split()
        )
        for path, tree in trees():
            named = set()
            for node in ast.walk(tree):
                for field in ("id", "attr", "arg", "name"):
                    named.add(getattr(node, field, None))
                if isinstance(node, ast.Constant) and isinstance(node.value, str) and " " not in node.value:
                    named.add(node.value)
            self.assertFalse(barred & named, path)
            for name in named - {None}:
                self.assertTrue(not name.startswith("__") or name.endswith("__"), (path, name))

    def test_errors_that_are_caught(self):
        own = {node.name for node in ast.parse((PACKAGE / "errors.py").read_text()).body if isinstance(node, ast.ClassDef)}
        for path, tree in trees():
            for node in ast.walk(tree):
                if isinstance(node, ast.ExceptHandler):
                    self.assertIn(node.type.id, own, path)
                    self.assertIsNone(node.name, path)
                self.assertNotIsInstance(node, (ast.GeneratorExp, ast.Lambda), path)
                if isinstance(node, ast.Raise):
                    self.assertIn(node.exc.func.id, own, (path, node.lineno))

    def test_keywords_of_builtins(self):
        let = {"sorted": {"key", "reverse"}, "min": {"key", "default"}, "max": {"key", "default"}, "sum": {"start"}}
        for path, tree in trees():
            for node in ast.walk(tree):
                if isinstance(node, ast.Call) and isinstance(node.func, ast.Name) and node.func.id in BUILTINS:
                    self.assertLessEqual({one.arg for one in node.keywords}, let.get(node.func.id, set()), (path, node.lineno))

    def test_python_itself_gives_no_warning(self):
        with warnings.catch_warnings():
            warnings.simplefilter("error")
            for path in files():
                compile(path.read_text(), str(path), "exec")


if __name__ == "__main__":
    unittest.main()
