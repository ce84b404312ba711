"""Point 1 and the interface: names, arguments, their files, and what the package leaves alone."""

import ast
import builtins
import importlib
import inspect
import pathlib
import unittest

FOLDER = pathlib.Path(__file__).resolve().parent.parent / "measurekind"
FUNCTIONS = {
    "measures": {
        "times": ["one", "other"], "over": ["one", "other"], "power": ["one", "n"], "filled": ["measure", "filling"],
    },
    "fractions": {
        "fraction": ["above", "below"], "added": ["one", "other"], "lessened": ["one", "other"],
        "product": ["one", "other"], "quotient": ["one", "other"], "raised": ["one", "n"],
        "is_less": ["one", "other"],
    },
    "reckonings": {"is_reckoning": ["thing"], "inputs": ["reckoning"], "noughts": ["reckoning"]},
    "worths": {"worth": ["reckoning", "values"]},
    "fitting": {
        "measure_by": ["reckoning", "names", "noughts"], "measure_of": ["reckoning"], "alike": ["reckoning"],
    },
    "solving": {"solved": ["measures", "letters"]},
    "kinds": {"widest": ["reckoning"]},
    "units": {
        "scale": ["measure", "units"], "retold": ["reckoning", "units"], "rescaled": ["values", "names", "units"],
    },
}
CLASSES = {"errors": ["MeasureError", "NoFit", "Unlike", "NoValue", "ByNought"]}
# What ../shared/LANGUAGE.md lets in (L2 and L8, but print); all else stays out.
LIBRARY = {
    "__future__": {"annotations"},
    "math": {"gcd", "lcm", "isqrt", "comb", "perm", "factorial"},
    "heapq": {"heappush", "heappop", "heapify", "heapreplace", "heappushpop"},
    "itertools": {
        "product", "combinations", "permutations", "chain", "accumulate", "pairwise", "islice", "zip_longest",
    },
    "collections": {"defaultdict", "deque"},
}
BUILTINS = set("""
    len range enumerate zip min max sum abs sorted reversed int str bool bytes list tuple dict set isinstance ord
    repr any all divmod pow map iter next type super object property staticmethod classmethod NotImplemented
    getattr hasattr setattr Exception ValueError TypeError KeyError IndexError LookupError ZeroDivisionError
    ArithmeticError OverflowError RuntimeError NotImplementedError AttributeError StopIteration
""".split())


def trees():
    return {path.name: ast.parse(path.read_text("ascii")) for path in sorted(FOLDER.iterdir()) if path.suffix == ".py"}


class Interface(unittest.TestCase):
    def test_functions(self):
        for file, functions in FUNCTIONS.items():
            module = importlib.import_module(f"measurekind.{file}")
            for name, arguments in functions.items():
                with self.subTest(file=file, name=name):
                    function = getattr(module, name)
                    self.assertTrue(inspect.isfunction(function))
                    self.assertEqual(function.__module__, module.__name__)
                    self.assertEqual(list(inspect.signature(function).parameters), arguments)

    def test_classes(self):
        for file, names in CLASSES.items():
            module = importlib.import_module(f"measurekind.{file}")
            for name in names:
                with self.subTest(file=file, name=name):
                    self.assertTrue(inspect.isclass(getattr(module, name)))
                    self.assertEqual(getattr(module, name).__module__, module.__name__)


class LeftAlone(unittest.TestCase):
    """No clock, chance or files: neither an import nor a builtin that could bring one."""

    def test_imports(self):
        for name, tree in trees().items():
            for node in ast.walk(tree):
                with self.subTest(file=name):
                    self.assertNotIsInstance(node, ast.Import)
                    if isinstance(node, ast.ImportFrom):
                        own = (node.module or "").startswith("measurekind.") and node.level == 0
                        words = {word.name for word in node.names}
                        self.assertTrue(own or words <= LIBRARY.get(node.module, set()), ast.unparse(node))

    def test_builtins(self):
        for name, tree in trees().items():
            for node in ast.walk(tree):
                if isinstance(node, ast.Name) and hasattr(builtins, node.id):
                    self.assertIn(node.id, BUILTINS, f"{name}:{node.lineno}")


class Sizes(unittest.TestCase):
    """The limits of ../shared/LANGUAGE.md that can be counted."""

    def test_only_python_files(self):
        for path in FOLDER.iterdir():
            if path.name != "__pycache__":
                self.assertTrue(path.suffix == ".py" and path.is_file(), path.name)

    def test_lines_and_characters(self):
        for path in FOLDER.glob("*.py"):
            lines = path.read_text("ascii").split("\n")
            self.assertLessEqual(len(lines), 399, path.name)
            for line in lines:
                self.assertLessEqual(len(line), 120, path.name)
                self.assertTrue(all(" " <= sign <= "~" for sign in line), path.name)

    def test_functions(self):
        for name, tree in trees().items():
            for node in ast.walk(tree):
                if isinstance(node, ast.FunctionDef):
                    self.assertLessEqual(node.end_lineno - node.lineno + 1, 40, f"{name}: {node.name}")


if __name__ == "__main__":
    unittest.main()
