"""The files of the package keep to the plain subset of the language, as far as a test can see it."""

import ast
import builtins
import pathlib
import unittest

from thincoins import errors

FOLDER = pathlib.Path(__file__).resolve().parent.parent / "thincoins"
FILES = sorted(FOLDER.glob("*.py"))
BUILTINS = set(
    "len range enumerate zip min max sum abs sorted reversed int str bool bytes list tuple dict set frozenset "
    "isinstance ord repr any all divmod pow iter next getattr hasattr setattr ValueError TypeError KeyError "
    "NotImplemented super staticmethod".split()
)
LIBRARY = {
    "heapq": {"heappush", "heappop", "heapify", "heapreplace", "heappushpop"},
    "math": {"gcd", "lcm", "isqrt", "comb", "perm", "factorial"},
    "itertools": {"product", "combinations", "permutations", "chain", "accumulate", "pairwise", "islice", "zip_longest"},
}
BARRED = set(
    "register mro elements open input law version_info with_traceback add_note breakpoint compile delattr dir eval exec "
    "exit globals help id locals quit type vars typing enum namedtuple chr float print map filter".split()
)
METHODS = set(
    "append clear copy count endswith extend find get index insert isalnum isalpha isdigit islower isspace isupper items "
    "join keys ljust lower lstrip partition pop remove replace reverse rfind rjust rpartition rsplit rstrip setdefault "
    "split splitlines startswith strip update upper values zfill bit_length".split()
)
ON_THE_SPOT = ("range", "zip", "enumerate", "reversed", "combinations", "product", "permutations")
TAKERS = ("list", "tuple", "dict", "sorted", "sum", "any", "all", "enumerate", "zip")


def trees():
    """The pairs (file, tree) of the package."""
    return [(path, ast.parse(path.read_text(encoding="utf-8"))) for path in FILES]


def bound_names(tree):
    """All names that a tree binds, in whatever place."""
    found = set()
    for node in ast.walk(tree):
        if isinstance(node, (ast.FunctionDef, ast.ClassDef)):
            found.add(node.name)
        if isinstance(node, ast.arg):
            found.add(node.arg)
        if isinstance(node, ast.Name) and isinstance(node.ctx, ast.Store):
            found.add(node.id)
        if isinstance(node, ast.ImportFrom):
            found.update(alias.name for alias in node.names)
        if isinstance(node, ast.ExceptHandler) and node.name:
            found.add(node.name)
    return found


def is_table(node, functions):
    """Whether it is a literal dict of strings and functions that are defined above."""
    if not isinstance(node, ast.Dict):
        return False
    named = all(isinstance(value, ast.Name) and value.id in functions for value in node.values)
    return named and all(isinstance(key, ast.Constant) and isinstance(key.value, str) for key in node.keys)


class TestLanguage(unittest.TestCase):
    def nodes(self, *kinds):
        """All nodes of these kinds, each in a sub-test that names its place."""
        for path, tree in trees():
            for node in ast.walk(tree):
                if isinstance(node, kinds):
                    with self.subTest(file=path.name, line=getattr(node, "lineno", 0)):
                        yield node

    def test_files(self):
        self.assertEqual([path.suffix for path in FOLDER.iterdir() if path.name != "__pycache__"], [".py"] * len(FILES))
        for path in FILES:
            text = path.read_text(encoding="utf-8")
            self.assertLessEqual(len(text.splitlines()), 399)
            self.assertLessEqual(max(len(line) for line in text.splitlines()), 120)
            self.assertTrue(all(char == "\n" or " " <= char <= "~" for char in text), path.name)
            self.assertNotIn("_wall", text)

    def test_functions_are_short(self):
        for node in self.nodes(ast.FunctionDef):
            self.assertLessEqual(node.end_lineno - node.lineno + 1, 40)

    def test_module_level(self):
        for path, tree in trees():
            names = []
            for node in tree.body:
                self.assertIsInstance(node, (ast.Expr, ast.ImportFrom, ast.FunctionDef, ast.ClassDef, ast.Assign))
                if isinstance(node, ast.Assign):
                    if not is_table(node.value, names):
                        ast.literal_eval(node.value)
                    names.append(node.targets[0].id)
                if isinstance(node, (ast.FunctionDef, ast.ClassDef)):
                    names.append(node.name)
            self.assertEqual(len(names), len(set(names)), path.name)

    def test_imports_name_the_defining_file(self):
        defined = {
            path.stem: {node.name for node in tree.body if isinstance(node, (ast.FunctionDef, ast.ClassDef))}
            | {node.targets[0].id for node in tree.body if isinstance(node, ast.Assign)}
            for path, tree in trees()
        }
        for node in self.nodes(ast.ImportFrom, ast.Import):
            self.assertIsInstance(node, ast.ImportFrom)
            self.assertTrue(all(alias.asname is None for alias in node.names))
            names = {alias.name for alias in node.names}
            if node.module in LIBRARY:
                self.assertLessEqual(names, LIBRARY[node.module])
            else:
                self.assertTrue(node.module.startswith("thincoins."))
                self.assertLessEqual(names, defined[node.module.split(".")[1]])

    def test_imports_run_one_way(self):
        above = {
            path.stem: {node.module.split(".")[1] for node in tree.body
                        if isinstance(node, ast.ImportFrom) and node.module.startswith("thincoins.")}
            for path, tree in trees()
        }
        done = set()
        while len(done) < len(above):
            ready = {name for name in above if name not in done and above[name] <= done}
            self.assertTrue(ready, set(above) - done)
            done |= ready

    def test_imports_are_used(self):
        for path, tree in trees():
            imported = {alias.name for node in tree.body if isinstance(node, ast.ImportFrom) for alias in node.names}
            used = {node.id for node in ast.walk(tree) if isinstance(node, ast.Name)}
            self.assertLessEqual(imported, used, path.name)

    def test_names(self):
        for path, tree in trees():
            bound = bound_names(tree)
            self.assertFalse(bound & set(dir(builtins)), path.name)
            self.assertFalse(bound & BARRED, path.name)
            loaded = {node.id for node in ast.walk(tree) if isinstance(node, ast.Name)}
            self.assertLessEqual(loaded - bound, BUILTINS, path.name)
            fixed = {node.name for node in tree.body if isinstance(node, ast.ClassDef)}
            fixed |= {alias.name for node in tree.body if isinstance(node, ast.ImportFrom) for alias in node.names}
            for function in [node for node in ast.walk(tree) if isinstance(node, ast.FunctionDef)]:
                told = bound_names(ast.Module(body=function.body, type_ignores=[]))
                told |= {arg.arg for arg in ast.walk(function.args) if isinstance(arg, ast.arg)}
                self.assertFalse(told & fixed, f"{path.name} {function.name}")

    def test_plain_values_and_signs(self):
        for node in self.nodes(ast.Constant, ast.BinOp, ast.Set, ast.SetComp, ast.GeneratorExp, ast.Global):
            self.assertNotIsInstance(node, (ast.Set, ast.SetComp, ast.GeneratorExp, ast.Global))
            if isinstance(node, ast.Constant):
                self.assertNotIsInstance(node.value, (float, complex, bytes))
                self.assertNotIn("%", str(node.value))
            else:
                self.assertNotIsInstance(node.op, (ast.Div, ast.MatMult, ast.Pow))

    def test_only_own_errors_are_caught(self):
        own = {name for name, one in vars(errors).items() if isinstance(one, type)}
        for node in self.nodes(ast.Try):
            self.assertFalse(node.finalbody)
            for handler in node.handlers:
                self.assertIsInstance(handler.type, ast.Name)
                self.assertIn(handler.type.id, own)

    def test_what_yields_is_iterated_on_the_spot(self):
        yielding = set()
        for _, tree in trees():
            for node in ast.walk(tree):
                if isinstance(node, ast.FunctionDef) and any(isinstance(one, ast.Yield) for one in ast.walk(node)):
                    yielding.add(node.name)
        self.assertEqual(yielding, {"trees"})
        for path, tree in trees():
            calls = [node for node in ast.walk(tree) if isinstance(node, ast.Call) and isinstance(node.func, ast.Name)]
            spots = {id(node.iter) for node in ast.walk(tree) if isinstance(node, (ast.For, ast.comprehension))}
            spots |= {id(node.args[0]) for node in calls if node.func.id in TAKERS and node.args}
            called = [node for node in calls if node.func.id in yielding]
            self.assertLessEqual({id(node) for node in called}, spots, path.name)
            named = [node for node in ast.walk(tree) if isinstance(node, ast.Name) and node.id in yielding]
            self.assertEqual(len(named), len(called), path.name)

    def test_methods_of_plain_values(self):
        own = {node.name for _, tree in trees() for node in ast.walk(tree) if isinstance(node, ast.FunctionDef)}
        for node in self.nodes(ast.Call):
            if isinstance(node.func, ast.Attribute):
                self.assertIn(node.func.attr, METHODS | own)

    def test_what_is_iterated_on_the_spot(self):
        for path, tree in trees():
            spots = set()
            for node in ast.walk(tree):
                if isinstance(node, (ast.For, ast.comprehension)):
                    spots.add(id(node.iter))
                if isinstance(node, ast.Call) and isinstance(node.func, ast.Name) and node.args:
                    if node.func.id in TAKERS + ON_THE_SPOT:
                        spots.add(id(node.args[0]))
            for node in ast.walk(tree):
                if isinstance(node, ast.Call) and isinstance(node.func, ast.Name) and node.func.id in ON_THE_SPOT:
                    self.assertIn(id(node), spots, f"{path.name} {node.lineno}")


if __name__ == "__main__":
    unittest.main()
