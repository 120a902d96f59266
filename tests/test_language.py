"""The form of the package: the interface stands where it should, and the subset of Python is kept."""

import ast
import builtins
import unittest
from pathlib import Path

PACKAGE = Path(__file__).resolve().parent.parent / "treespace"

# Each file of the interface, with its functions and classes and their arguments.
INTERFACE = {
    "errors.py": {
        "TreeError": None, "BadFraction": None, "BadSum": None, "BadNumber": None, "BadLot": None, "BadShape": None,
        "BadTree": None, "BadTrees": None, "BadLeg": None, "BadChain": None, "BadText": None,
    },
    "roots.py": {
        "root": ["one"], "plus": ["one", "other"], "times": ["one", "other"], "sign": ["one"],
        "figures": ["one", "bits"],
    },
    "trees.py": {
        "fits": ["many", "one", "other"], "shapes": ["many", "roads"], "around": ["many", "shape"],
        "shape_of": ["tree"], "renamed": ["tree", "order"], "joined": ["one", "other", "length"],
    },
    "covers.py": {"cheaper": ["many", "one", "other"], "shares": ["many", "one", "other"]},
    "ways.py": {
        "shared": ["one", "other"], "chain": ["one", "other"], "square": ["one", "other"], "bounds": ["one", "other"],
        "unshared": ["one", "other"],
    },
    "papers.py": {"way_paper": ["one", "other"], "shows_way": ["one", "other", "thing"]},
    "spots.py": {
        "breaks": ["one", "other"], "spot": ["one", "other", "share"], "stretches": ["one", "other"],
        "past_star": ["one", "other"],
    },
    "lengths.py": {
        "open_chains": ["many", "one", "other"], "lengths_for": ["many", "one", "other", "told"],
        "always_star": ["many", "one", "other"],
    },
    "means.py": {
        "square_sum": ["tree", "some"], "pull": ["tree", "some"], "is_mean": ["tree", "some"], "spider": ["some"],
    },
    "texts.py": {"write": ["tree"], "read": ["text"]},
}

LIBRARY = {
    "math": {"gcd", "lcm", "isqrt", "comb", "perm", "factorial"},
    "itertools": {"product", "combinations", "permutations", "chain", "accumulate", "pairwise", "islice"},
    "heapq": {"heappush", "heappop", "heapify"},
}

BARRED = (
    ast.AsyncFunctionDef, ast.AsyncFor, ast.AsyncWith, ast.Await, ast.Div, ast.MatMult, ast.Global, ast.Try, ast.With,
    ast.Set, ast.SetComp, ast.GeneratorExp, ast.Yield, ast.YieldFrom,
)

BUILTINS = {
    "len", "range", "enumerate", "zip", "min", "max", "sum", "abs", "sorted", "reversed", "int", "str", "bool", "list",
    "tuple", "dict", "isinstance", "ord", "any", "all", "divmod", "ValueError",
}

METHODS = {
    "append", "extend", "get", "items", "keys", "values", "index", "count", "split", "join", "pop", "insert",
    "partition", "update",
}


def files():
    return sorted(PACKAGE.glob("**/*.py"))


def parsed(path):
    return ast.parse(path.read_text(encoding="utf-8"))


def bound_names(tree):
    """All names that a file gives a meaning."""
    found = set()
    for node in ast.walk(tree):
        if isinstance(node, (ast.FunctionDef, ast.ClassDef)):
            found.add(node.name)
        elif isinstance(node, ast.arg):
            found.add(node.arg)
        elif isinstance(node, ast.alias):
            found.add(node.name)
        elif isinstance(node, ast.Name) and not isinstance(node.ctx, ast.Load):
            found.add(node.id)
    return found


class InterfaceTest(unittest.TestCase):
    def test_names_and_arguments(self):
        for name, told in INTERFACE.items():
            defined = {}
            for node in parsed(PACKAGE / name).body:
                if isinstance(node, ast.FunctionDef):
                    defined[node.name] = [arg.arg for arg in node.args.args]
                elif isinstance(node, ast.ClassDef):
                    defined[node.name] = None
            for word, arguments in told.items():
                self.assertIn(word, defined, name)
                self.assertEqual(defined[word], arguments, word)


class LanguageTest(unittest.TestCase):
    def test_the_folder_holds_python_files_alone(self):
        for path in PACKAGE.glob("**/*"):
            if "__pycache__" not in path.parts:
                self.assertTrue(path.is_dir() or path.suffix == ".py", path)

    def test_sizes_and_signs(self):
        for path in files():
            text = path.read_text(encoding="utf-8")
            self.assertLessEqual(len(text.splitlines()), 399, path)
            for line in text.split("\n"):
                self.assertLessEqual(len(line), 120, (path, line))
                self.assertTrue(all(" " <= sign <= "~" for sign in line), (path, line))
            for node in ast.walk(parsed(path)):
                if isinstance(node, ast.FunctionDef):
                    self.assertLessEqual(node.end_lineno - node.lineno + 1, 40, (path, node.name))

    def test_no_barred_statements(self):
        for path in files():
            for node in ast.walk(parsed(path)):
                self.assertNotIsInstance(node, BARRED, (path, getattr(node, "lineno", 0)))
                if isinstance(node, ast.Constant):
                    self.assertNotIsInstance(node.value, (float, complex), path)
                if isinstance(node, (ast.FunctionDef, ast.ClassDef)):
                    self.assertEqual(node.decorator_list, [], path)

    def test_imports(self):
        for path in files():
            for node in ast.walk(parsed(path)):
                self.assertNotIsInstance(node, ast.Import, path)
                if not isinstance(node, ast.ImportFrom):
                    continue
                self.assertEqual(node.level, 0, path)
                for name in node.names:
                    self.assertIsNone(name.asname, path)
                    if node.module in LIBRARY:
                        self.assertIn(name.name, LIBRARY[node.module], path)
                        continue
                    package, place = node.module.split(".")
                    self.assertEqual(package, "treespace", path)
                    home = parsed(PACKAGE / (place + ".py"))
                    self.assertIn(name.name, [part.name for part in home.body if hasattr(part, "name")], path)

    def test_only_known_names_are_called(self):
        for path in files():
            tree = parsed(path)
            bound = bound_names(tree)
            self.assertEqual(bound & (BUILTINS | set(dir(builtins))), set(), path)
            for node in ast.walk(tree):
                if isinstance(node, ast.Name):
                    self.assertIn(node.id, bound | BUILTINS, (path, node.lineno))
                if isinstance(node, ast.Attribute):
                    self.assertIn(node.attr, METHODS, (path, node.lineno))

    def test_module_level(self):
        for path in files():
            for at, node in enumerate(parsed(path).body):
                if at == 0:
                    self.assertIsNotNone(ast.get_docstring(parsed(path)), path)
                    continue
                self.assertIsInstance(node, (ast.ImportFrom, ast.FunctionDef, ast.ClassDef, ast.Assign), path)

    def test_no_imports_in_a_ring(self):
        needs = {}
        for path in files():
            needs[path.stem] = [node.module.split(".")[1] for node in ast.walk(parsed(path))
                                if isinstance(node, ast.ImportFrom) and node.module.startswith("treespace.")]
        while needs:
            free = [name for name, others in needs.items() if not any(other in needs for other in others)]
            self.assertNotEqual(free, [], needs)
            for name in free:
                del needs[name]


if __name__ == "__main__":
    unittest.main()
