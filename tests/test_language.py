"""Rules of LANGUAGE.md that a test can see in the files of the package."""

import ast
import builtins
import pathlib
import unittest
import warnings

PACKAGE = pathlib.Path(__file__).resolve().parent.parent / "pawlhall"

LIBRARY = {
    "math": {"gcd", "lcm", "isqrt", "comb", "perm", "factorial"},
    "heapq": {"heappush", "heappop", "heapify", "heapreplace", "heappushpop"},
    "itertools": {
        "product", "combinations", "permutations",
        "chain", "accumulate", "pairwise", "islice", "zip_longest",
    },
    "collections": {"defaultdict", "deque"},
}

BUILTINS = set(
    "len range enumerate zip min max sum abs sorted reversed int str bool list tuple dict set"
    " isinstance ord repr any all divmod pow getattr hasattr setattr iter next map type"
    " Exception ValueError TypeError KeyError IndexError LookupError ZeroDivisionError"
    " ArithmeticError OverflowError RuntimeError NotImplementedError AttributeError"
    " StopIteration NotImplemented property staticmethod classmethod super".split()
)

DOUBLE = set(
    "__init__ __eq__ __repr__ __str__ __len__ __enter__ __exit__ __call__ __iter__".split()
)

STATEMENTS = (
    ast.Expr, ast.Assign, ast.AnnAssign, ast.ImportFrom, ast.FunctionDef, ast.ClassDef
)

ONCE = set("zip enumerate reversed range items keys values".split())

ITERATING = set("list tuple dict sorted sum any all enumerate zip min max combinations".split())

NOWHERE = set(
    "register mro elements open input law version_info with_traceback add_note"
    " dataclass overload contextmanager namedtuple abstractmethod typing enum".split()
)


def files():
    return sorted(PACKAGE.rglob("*.py"))


def trees():
    return [(path.name, ast.parse(path.read_text())) for path in files()]


def nodes(*kinds):
    for name, tree in trees():
        for node in ast.walk(tree):
            if isinstance(node, kinds):
                yield f"{name}:{getattr(node, 'lineno', 0)}", node


class FilesTest(unittest.TestCase):
    def test_the_folder_holds_python_files_only(self):
        for path in PACKAGE.rglob("*"):
            if path.name != "__pycache__" and path.parent.name != "__pycache__":
                self.assertEqual(path.suffix, ".py", path)
        self.assertIn(PACKAGE / "__init__.py", files())

    def test_characters_and_sizes(self):
        for path in files():
            data = path.read_bytes()
            self.assertLessEqual(set(data), set(range(32, 127)) | {10}, path)
            rows = data.decode().split("\n")
            self.assertLessEqual(len(rows), 399, path)
            self.assertLessEqual(max(len(row) for row in rows), 120, path)

    def test_functions_have_at_most_forty_lines(self):
        for place, node in nodes(ast.FunctionDef):
            self.assertLessEqual(node.end_lineno - node.lineno + 1, 40, place)

    def test_no_warnings(self):
        for path in files():
            with warnings.catch_warnings():
                warnings.simplefilter("error")
                compile(path.read_text(), str(path), "exec")


class CodeTest(unittest.TestCase):
    def test_imports(self):
        for place, node in nodes(ast.Import, ast.ImportFrom):
            self.assertIsInstance(node, ast.ImportFrom, place)
            self.assertEqual(node.level, 0, place)
            for name in node.names:
                self.assertIsNone(name.asname, place)
                if not node.module.startswith("pawlhall."):
                    self.assertIn(name.name, LIBRARY[node.module], place)

    def test_no_files_import_each_other(self):
        needs = {
            name[:-3]: {
                node.module.split(".")[1]
                for node in tree.body
                if isinstance(node, ast.ImportFrom) and node.module.startswith("pawlhall.")
            }
            for name, tree in trees()
        }
        while needs:
            free = [name for name in needs if not needs[name] & set(needs)]
            self.assertTrue(free, needs)
            needs = {name: needs[name] for name in needs if name not in free}

    def test_module_level(self):
        for name, tree in trees():
            for node in tree.body:
                self.assertIsInstance(node, STATEMENTS, (name, node.lineno))
                if isinstance(node, ast.Expr):
                    self.assertIsInstance(node.value, ast.Constant, (name, node.lineno))

    def test_builtins(self):
        for place, node in nodes(ast.Name):
            if node.id in vars(builtins):
                self.assertIn(node.id, BUILTINS, place)
                self.assertIsInstance(node.ctx, ast.Load, place)

    def test_names(self):
        for place, node in nodes(ast.Name, ast.Attribute, ast.arg, ast.FunctionDef, ast.ClassDef):
            for key in ("id", "attr", "arg", "name"):
                name = getattr(node, key, "a")
                self.assertNotIn(name, NOWHERE, place)
                self.assertTrue(not name.startswith("__") or name in DOUBLE, place)

    def test_values(self):
        for place, node in nodes(ast.Constant, ast.BinOp, ast.AugAssign):
            if isinstance(node, ast.Constant):
                self.assertNotIsInstance(node.value, (float, complex), place)
            else:
                self.assertNotIsInstance(node.op, (ast.Div, ast.MatMult), place)

    def test_statements(self):
        banned = (ast.AsyncFunctionDef, ast.AsyncFor, ast.AsyncWith, ast.Await, ast.TryStar)
        for place, node in nodes(*banned):
            self.fail(place)

    def test_decorators(self):
        for place, node in nodes(ast.FunctionDef, ast.ClassDef):
            for one in node.decorator_list:
                self.assertIsInstance(node, ast.FunctionDef, place)
                if isinstance(one, ast.Attribute):
                    self.assertEqual(one.attr, "setter", place)
                else:
                    self.assertIn(one.id, ("property", "staticmethod", "classmethod"), place)

    def test_errors_are_caught_by_name_and_created_on_the_spot(self):
        for place, node in nodes(ast.ExceptHandler):
            self.assertIsNotNone(node.type, place)
        for place, node in nodes(ast.Raise):
            if node.exc is not None:
                self.assertIsInstance(node.exc, ast.Call, place)

    def test_no_local_name_hides_an_import_a_class_or_a_builtin(self):
        for name, tree in trees():
            taken = {node.name for node in ast.walk(tree) if isinstance(node, ast.ClassDef)}
            for node in ast.walk(tree):
                if isinstance(node, ast.ImportFrom):
                    taken |= {one.name for one in node.names}
            for node in ast.walk(tree):
                if isinstance(node, ast.arg):
                    self.assertNotIn(node.arg, taken | set(vars(builtins)), (name, node.lineno))
                if isinstance(node, ast.Name) and isinstance(node.ctx, ast.Store):
                    self.assertNotIn(node.id, taken, (name, node.lineno))

    def test_every_import_is_used(self):
        for name, tree in trees():
            used = {node.id for node in ast.walk(tree) if isinstance(node, ast.Name)}
            for node in tree.body:
                if isinstance(node, ast.ImportFrom):
                    self.assertLessEqual({one.name for one in node.names}, used, name)

    def test_no_generator_expressions(self):
        # With a class that has __eq__, "any" and the like take lists.
        for place, node in nodes(ast.GeneratorExp):
            self.fail(place)

    def test_iterated_at_once(self):
        for name, tree in trees():
            good = set()
            for node in ast.walk(tree):
                if isinstance(node, (ast.For, ast.comprehension)):
                    good.add(node.iter)
                if isinstance(node, ast.Call) and isinstance(node.func, ast.Name):
                    if node.func.id in ITERATING:
                        good |= set(node.args)
            for node in ast.walk(tree):
                if isinstance(node, ast.Call) and node not in good:
                    called = getattr(node.func, "id", getattr(node.func, "attr", ""))
                    self.assertNotIn(called, ONCE, (name, node.lineno))

    def test_stars_in_calls(self):
        for place, node in nodes(ast.Call):
            for one in node.args:
                if isinstance(one, ast.Starred):
                    self.assertIsInstance(one.value, (ast.Name, ast.Attribute), place)

    def test_rows_of_exit(self):
        for place, node in nodes(ast.FunctionDef):
            if node.name == "__exit__":
                self.assertEqual(len(node.args.args), 4, place)
                for row in node.body:
                    self.assertIsInstance(row, ast.Assign, place)
                    self.assertIsInstance(row.value, ast.Attribute, place)

    def test_names_are_imported_from_where_they_are_defined(self):
        defined = {}
        for name, tree in trees():
            names = {node.name for node in tree.body if hasattr(node, "name")}
            for node in tree.body:
                if isinstance(node, ast.Assign):
                    names |= {target.id for target in node.targets}
            defined["pawlhall." + name[:-3]] = names
        for place, node in nodes(ast.ImportFrom):
            if node.module in defined:
                self.assertLessEqual({one.name for one in node.names}, defined[node.module], place)

    def test_attributes_are_assigned_through_a_local_name(self):
        for place, node in nodes(ast.Attribute):
            if isinstance(node.ctx, ast.Store):
                self.assertIsInstance(node.value, ast.Name, place)

    def test_classes_are_not_stored_or_passed_on(self):
        classes = {node.name for place, node in nodes(ast.ClassDef)}
        for name, tree in trees():
            good = set()
            for node in ast.walk(tree):
                if isinstance(node, ast.Call):
                    good.add(node.func)
                    if getattr(node.func, "id", "") == "isinstance":
                        good.add(node.args[1])
                if isinstance(node, ast.ClassDef):
                    good |= set(node.bases)
                if isinstance(node, ast.ExceptHandler):
                    good |= {node.type, *getattr(node.type, "elts", [])}
                if isinstance(node, ast.Attribute):
                    good.add(node.value)
            for node in ast.walk(tree):
                if isinstance(node, ast.Name) and node.id in classes:
                    self.assertIn(node, good, (name, node.lineno))

    def test_generators_are_iterated_at_once(self):
        makers = set()
        for place, node in nodes(ast.FunctionDef):
            if any(isinstance(one, (ast.Yield, ast.YieldFrom)) for one in ast.walk(node)):
                makers.add(node.name)
        self.assertEqual(makers, {"elementary", "steps"})
        for name, tree in trees():
            good = set()
            for node in ast.walk(tree):
                if isinstance(node, (ast.For, ast.comprehension)):
                    good.add(node.iter)
                if isinstance(node, ast.Call) and getattr(node.func, "id", "") in ITERATING:
                    good |= set(node.args)
            for node in ast.walk(tree):
                if isinstance(node, ast.Call):
                    called = getattr(node.func, "id", getattr(node.func, "attr", ""))
                    self.assertTrue(called not in makers or node in good, (name, node.lineno))

    def test_no_name_is_a_method_and_an_attribute(self):
        methods, attributes = set(), set()
        for place, node in nodes(ast.ClassDef):
            methods |= {one.name for one in node.body if isinstance(one, ast.FunctionDef)}
        for place, node in nodes(ast.Attribute):
            if isinstance(node.ctx, ast.Store):
                attributes.add(node.attr)
        self.assertFalse(methods & attributes)


if __name__ == "__main__":
    unittest.main()
