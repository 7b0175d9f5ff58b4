"""Looks for what LANGUAGE.md rules out, as far as it can be seen from single lines and names."""

import ast
import builtins
import pathlib
import unittest
import warnings

import biddingmoves

FOLDER = pathlib.Path(biddingmoves.__file__).parent
FILES = sorted(FOLDER.glob("*.py"))
LIBRARY = {"math": {"gcd", "lcm", "isqrt", "comb"}, "heapq": {"heappush", "heappop"}, "itertools": {"product"}}
BUILTINS = set(
    "len range enumerate zip min max sum abs sorted reversed int str bool list tuple dict set isinstance ord repr "
    "any all divmod type property staticmethod classmethod super map iter next Exception ValueError TypeError "
    "KeyError IndexError LookupError ZeroDivisionError ArithmeticError NotImplemented StopIteration".split()
)
DOUBLE = set(
    "__init__ __eq__ __repr__ __str__ __len__ __enter__ __exit__ __call__ __iter__ __contains__ __getitem__ "
    "__setitem__ __bool__".split()
)
METHODS = set(
    "append clear copy count endswith extend find get index insert isalnum isalpha isdigit islower isspace isupper "
    "items join keys ljust lower lstrip partition pop remove replace reverse rfind rjust rpartition rsplit rstrip "
    "setdefault split splitlines startswith strip update upper values zfill bit_length add discard".split()
)
NOT_USED = (
    ast.AsyncFunctionDef, ast.AsyncFor, ast.AsyncWith, ast.Await, ast.Global, ast.Import, ast.Div, ast.TryStar,
)

TREES = [(path, ast.parse(path.read_text())) for path in FILES]


def nodes(*kinds):
    return [(path, node) for path, tree in TREES for node in ast.walk(tree) if isinstance(node, kinds)]


class TestLanguage(unittest.TestCase):
    def test_folder_and_sizes(self):
        there = {path.name for path in FOLDER.iterdir() if path.name != "__pycache__"}
        self.assertEqual(there, {path.name for path in FILES})
        for path in FILES:
            text = path.read_text()
            self.assertLessEqual(text.count("\n"), 399, path.name)
            self.assertTrue(all(sign == "\n" or " " <= sign <= "~" for sign in text), path.name)
            for at, line in enumerate(text.split("\n"), start=1):
                self.assertLessEqual(len(line), 120, f"{path.name}:{at}")
        for path, node in nodes(ast.FunctionDef):
            self.assertLessEqual(node.end_lineno - node.lineno + 1, 40, f"{path.name}: {node.name}")

    def test_python_gives_no_warning(self):
        with warnings.catch_warnings():
            warnings.simplefilter("error")
            for path in FILES:
                compile(path.read_text(), str(path), "exec")

    def test_imports(self):
        defined = {
            path.stem: {node.name for node in tree.body if isinstance(node, (ast.FunctionDef, ast.ClassDef))}
            | {node.targets[0].id for node in tree.body if isinstance(node, ast.Assign)}
            for path, tree in TREES
        }
        needs = {path.stem: set() for path in FILES}
        for path, node in nodes(ast.ImportFrom):
            names = {alias.name for alias in node.names}
            self.assertEqual(node.level, 0)
            self.assertFalse([alias for alias in node.names if alias.asname])
            if node.module in LIBRARY:
                self.assertLessEqual(names, LIBRARY[node.module])
            else:
                package, stem = node.module.split(".")
                self.assertEqual(package, "biddingmoves")
                self.assertLessEqual(names, defined[stem], path.name)
                needs[path.stem].add(stem)
        while needs:
            free = {stem for stem in needs if not needs[stem] & set(needs)}
            self.assertTrue(free, f"a round of imports among {sorted(needs)}")
            needs = {stem: needs[stem] for stem in needs if stem not in free}

    def test_module_level(self):
        for path, tree in TREES:
            for at, node in enumerate(tree.body):
                if at == 0:
                    self.assertIsNotNone(ast.get_docstring(tree), path.name)
                elif isinstance(node, ast.Assign):
                    self.assertEqual([type(target) for target in node.targets], [ast.Name])
                    self.assertFalse([part for part in ast.walk(node.value) if isinstance(part, ast.Call)])
                else:
                    self.assertIsInstance(node, (ast.ImportFrom, ast.FunctionDef, ast.ClassDef), path.name)

    def test_statements_and_values(self):
        self.assertEqual([(path.name, node.lineno) for path, node in nodes(*NOT_USED) if hasattr(node, "lineno")], [])
        self.assertEqual(nodes(ast.Div), [])
        for path, node in nodes(ast.Constant):
            self.assertNotIn(type(node.value), (float, complex), f"{path.name}:{node.lineno}")
        for path, node in nodes(ast.FunctionDef, ast.ClassDef):
            allowed = {"property", "staticmethod", "classmethod"} if isinstance(node, ast.FunctionDef) else set()
            self.assertLessEqual({ast.unparse(one).split(".")[-1] for one in node.decorator_list}, allowed, node.name)
            if node.name.startswith("__"):
                self.assertIn(node.name, DOUBLE)
        # A class of the package has __eq__, so these take lists instead of generator expressions.
        self.assertEqual([(path.name, node.lineno) for path, node in nodes(ast.GeneratorExp)], [])

    def test_names(self):
        for path, node in nodes(ast.Name):
            where = f"{path.name}:{node.lineno}: {node.id}"
            if hasattr(builtins, node.id):
                self.assertIn(node.id, BUILTINS, where)
                self.assertIsInstance(node.ctx, ast.Load, where)
        for path, node in nodes(ast.arg, ast.FunctionDef, ast.ClassDef):
            name = node.arg if isinstance(node, ast.arg) else node.name
            if name not in DOUBLE:
                self.assertFalse(hasattr(builtins, name), f"{path.name}:{node.lineno}: {name}")

    def test_imports_and_classes_keep_their_names(self):
        for path, tree in TREES:
            kept = {alias.name for node in ast.walk(tree) if isinstance(node, ast.ImportFrom) for alias in node.names}
            kept |= {node.name for node in tree.body if isinstance(node, ast.ClassDef)}
            for node in ast.walk(tree):
                if isinstance(node, ast.arg):
                    self.assertNotIn(node.arg, kept, f"{path.name}:{node.lineno}")
                elif isinstance(node, ast.Name) and not isinstance(node.ctx, ast.Load):
                    self.assertNotIn(node.id, kept, f"{path.name}:{node.lineno}")

    def test_library_is_only_called(self):
        names = set().union(*LIBRARY.values())
        called = [node.func for _, node in nodes(ast.Call)]
        for path, node in nodes(ast.Name):
            if node.id in names:
                self.assertTrue(any(node is call for call in called), f"{path.name}:{node.lineno}")

    def test_calls(self):
        own = {node.name for _, node in nodes(ast.FunctionDef)}
        for path, node in nodes(ast.Call):
            where = f"{path.name}:{node.lineno}"
            if isinstance(node.func, ast.Attribute):
                self.assertIn(node.func.attr, own | METHODS, where)
        asked = [node for _, node in nodes(ast.Call) if ast.unparse(node.func) == "type"]
        beside = [node.left for _, node in nodes(ast.Compare) if len(node.ops) == 1]
        kept = [node for node in asked if not any(node is left for left in beside)]
        self.assertEqual(kept, [])

    def test_each_function_tells_what_it_does(self):
        for path, node in nodes(ast.FunctionDef, ast.ClassDef):
            if not node.name.startswith("_"):
                self.assertIsNotNone(ast.get_docstring(node), f"{path.name}: {node.name}")


if __name__ == "__main__":
    unittest.main()
