"""Some of the rules of the language: sizes, characters, imports, builtins and kinds of code."""

import ast
import builtins
import pathlib
import unittest

PACKAGE = pathlib.Path(__file__).resolve().parent.parent / "strewfar"
LIBRARY = {
    "__future__": {"annotations"},
    "heapq": {"heappush", "heappop", "heapify", "heapreplace", "heappushpop"},
    "math": {"gcd", "lcm", "isqrt", "comb", "perm", "factorial"},
    "itertools": {"product", "combinations", "permutations", "chain", "accumulate", "pairwise", "islice",
                  "zip_longest"},
    "collections": {"defaultdict"},
}
BUILTINS = set("""
    len range enumerate zip min max sum abs sorted reversed int str bool bytes list tuple dict set frozenset isinstance
    ord repr any all divmod pow getattr hasattr setattr iter next map property staticmethod classmethod super
    Exception ValueError TypeError KeyError IndexError LookupError ZeroDivisionError ArithmeticError OverflowError
    RuntimeError NotImplementedError AttributeError StopIteration NotImplemented
""".split())
BARRED = (ast.Global, ast.AsyncFunctionDef, ast.Await, ast.AsyncFor, ast.AsyncWith, ast.Div)
DECORATORS = ("property", "staticmethod", "classmethod")


def sources():
    return [(path, path.read_text()) for path in sorted(PACKAGE.rglob("*.py"))]


def nodes(*kinds):
    """Return the file's name and the node for each node of these kinds in the package."""
    return [(path.name, node) for path, text in sources() for node in ast.walk(ast.parse(text))
            if isinstance(node, kinds)]


class Files(unittest.TestCase):
    def test_sizes_and_characters(self):
        for path, text in sources():
            rows = text.split("\n")
            with self.subTest(file=path.name):
                self.assertLess(len(rows), 400)
                self.assertLessEqual(max(len(row) for row in rows), 120)
                self.assertTrue(all(sign == "\n" or " " <= sign <= "~" for sign in text))

    def test_functions_are_short(self):
        for name, node in nodes(ast.FunctionDef):
            with self.subTest(file=name, function=node.name):
                self.assertLessEqual(node.end_lineno - node.lineno + 1, 40)

    def test_the_folder_holds_only_the_program(self):
        found = [path.name for path in PACKAGE.rglob("*") if path.is_file() and path.suffix not in (".py", ".pyc")]
        self.assertEqual(found, [])


class Code(unittest.TestCase):
    def test_imports(self):
        self.assertEqual(nodes(ast.Import), [])
        for name, node in nodes(ast.ImportFrom):
            with self.subTest(file=name, module=node.module):
                self.assertEqual(node.level, 0)
                if not node.module.startswith("strewfar."):
                    self.assertLessEqual({alias.name for alias in node.names}, LIBRARY[node.module])
                    self.assertEqual({alias.asname for alias in node.names}, {None})

    def test_builtins(self):
        for name, node in nodes(ast.Name):
            if hasattr(builtins, node.id):
                with self.subTest(file=name, line=node.lineno):
                    self.assertIn(node.id, BUILTINS)
                    self.assertIsInstance(node.ctx, ast.Load)

    def test_barred_code(self):
        self.assertEqual([(name, ast.dump(node)) for name, node in nodes(*BARRED)], [])

    def test_decorators(self):
        for name, node in nodes(ast.FunctionDef, ast.ClassDef):
            for decorator in node.decorator_list:
                with self.subTest(file=name, line=node.lineno):
                    setter = isinstance(decorator, ast.Attribute) and decorator.attr == "setter"
                    self.assertTrue(setter or getattr(decorator, "id", "") in DECORATORS)

    def test_stars_in_calls(self):
        for name, node in nodes(ast.Call):
            for argument in node.args:
                if isinstance(argument, ast.Starred):
                    with self.subTest(file=name, line=node.lineno):
                        self.assertIsInstance(argument.value, (ast.Name, ast.Attribute, ast.List, ast.Tuple))

    def test_names_of_imports_and_classes_mean_nothing_else(self):
        for path, text in sources():
            tree = ast.parse(text)
            taken = {alias.name for node in tree.body if isinstance(node, ast.ImportFrom) for alias in node.names}
            taken |= {node.name for node in tree.body if isinstance(node, ast.ClassDef)}
            for node in ast.walk(tree):
                names = [node.id] if isinstance(node, ast.Name) and isinstance(node.ctx, ast.Store) else []
                names += [node.arg] if isinstance(node, ast.arg) else []
                with self.subTest(file=path.name, names=names):
                    self.assertFalse(taken & set(names))
                    self.assertFalse([name for name in names if hasattr(builtins, name)])

    def test_each_name_of_a_generator_is_its_own(self):
        functions = [node for _, node in nodes(ast.FunctionDef)]
        generators = {node.name for node in functions if any(isinstance(one, ast.Yield) for one in ast.walk(node))}
        self.assertEqual(generators, {"walk"})
        self.assertEqual(len([node for node in functions if node.name in generators]), len(generators))

    def test_imports_are_used(self):
        for path, text in sources():
            tree = ast.parse(text)
            names = {alias.name for node in tree.body if isinstance(node, ast.ImportFrom) for alias in node.names}
            used = {node.id for node in ast.walk(tree) if isinstance(node, ast.Name)}
            with self.subTest(file=path.name):
                self.assertLessEqual(names, used)

    def test_no_generator_expressions_and_no_annotations(self):
        self.assertEqual(nodes(ast.GeneratorExp, ast.AnnAssign), [])

    def test_strings(self):
        for name, node in nodes(ast.Constant):
            with self.subTest(file=name, line=node.lineno):
                self.assertNotIsInstance(node.value, (float, complex))
                if isinstance(node.value, str):
                    self.assertNotIn("%", node.value)


if __name__ == "__main__":
    unittest.main()
