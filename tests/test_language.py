"""The plainest rules of the language of the package: sizes, names, imports, values."""

import ast
import builtins
import pathlib
import re
import unittest

PACKAGE = pathlib.Path(__file__).resolve().parent.parent / "netsredrawn"
LIBRARY = {"heapq": {"heappush", "heappop", "heapify", "heapreplace", "heappushpop"},
           "math": {"gcd", "lcm", "isqrt", "comb", "perm", "factorial"},
           "itertools": {"product", "combinations", "permutations", "chain", "accumulate", "pairwise", "islice",
                         "zip_longest"},
           "collections": {"defaultdict"}}
BUILTINS = set("""len range enumerate zip min max sum abs sorted reversed int str bool bytes list tuple dict set frozenset
    isinstance ord repr any all divmod pow getattr hasattr setattr iter next map property staticmethod classmethod super
    object ValueError TypeError KeyError IndexError LookupError Exception RuntimeError NotImplemented StopIteration""".split())


def sources():
    return {path.name: path.read_text(encoding="utf-8") for path in sorted(PACKAGE.glob("*.py"))}


class LanguageTest(unittest.TestCase):

    def each_node(self, *kinds):
        for name, text in sources().items():
            for node in ast.walk(ast.parse(text)):
                if isinstance(node, kinds):
                    yield name, node

    def test_files(self):
        files = [path for path in PACKAGE.iterdir() if path.name != "__pycache__"]
        for path in files:
            self.assertRegex(path.name, r"^[a-z0-9_]+\.py$")
        self.assertLessEqual(len(files), 100)
        for name, text in sources().items():
            lines = text.splitlines()
            self.assertLessEqual(len(lines), 399, name)
            for line in lines:
                self.assertLessEqual(len(line), 120, name)
            self.assertRegex(text, r"^[ -~\n]*$")

    def test_functions_are_short(self):
        for name, node in self.each_node(ast.FunctionDef):
            self.assertLessEqual(node.end_lineno - node.lineno + 1, 40, (name, node.name))

    def test_imports(self):
        for name, text in sources().items():
            tree = ast.parse(text)
            for node in ast.walk(tree):
                self.assertNotIsInstance(node, ast.Import, name)
                if isinstance(node, ast.ImportFrom):
                    self.assertIn(node, tree.body)
                    self.assertEqual(node.level, 0)
                    package, _, module = node.module.partition(".")
                    for each in node.names:
                        self.assertIsNone(each.asname)
                        if package == "netsredrawn":
                            self.assertRegex(sources()[module + ".py"],
                                             rf"(?m)^(def|class) {each.name}\b|^{each.name} = ")
                        else:
                            self.assertIn(each.name, LIBRARY[package])

    def test_no_two_files_import_from_each_other(self):
        graph = {name[:-3]: re.findall(r"(?m)^from netsredrawn\.(\w+) import", text) for name, text in sources().items()}

        def walk(module, way):
            self.assertNotIn(module, way)
            for other in graph[module]:
                walk(other, way + [module])
        for module in graph:
            walk(module, [])

    def test_values(self):
        for name, node in self.each_node(ast.Constant):
            self.assertNotIsInstance(node.value, (float, complex), name)
            if isinstance(node.value, str):
                self.assertNotIn("%", node.value, name)
        for name, node in self.each_node(ast.BinOp):
            self.assertNotIsInstance(node.op, ast.Div, name)
            if isinstance(node.op, ast.Pow):
                self.assertIsInstance(node.right, ast.Constant, name)
        for name, node in self.each_node(ast.Global, ast.AsyncFunctionDef, ast.GeneratorExp):
            self.fail((name, node.lineno))

    def test_names(self):
        own = set(dir(builtins))
        for name, node in self.each_node(ast.Name):
            if node.id in own:
                self.assertIsInstance(node.ctx, ast.Load, (name, node.id))
                self.assertIn(node.id, BUILTINS, name)
        for name, node in self.each_node(ast.arg):
            self.assertNotIn(node.arg, own, name)
        for name, text in sources().items():
            imported = {each.name for node in ast.parse(text).body if isinstance(node, ast.ImportFrom)
                        for each in node.names}
            for node in ast.walk(ast.parse(text)):
                if isinstance(node, ast.arg):
                    self.assertNotIn(node.arg, imported, name)
                if isinstance(node, ast.Name) and isinstance(node.ctx, ast.Store):
                    self.assertNotIn(node.id, imported, name)

    def test_module_level(self):
        for name, text in sources().items():
            for node in ast.parse(text).body:
                self.assertIsInstance(node, (ast.Expr, ast.ImportFrom, ast.FunctionDef, ast.ClassDef, ast.Assign), name)
                if isinstance(node, ast.Expr):
                    self.assertIsInstance(node.value, ast.Constant)


if __name__ == "__main__":
    unittest.main()
