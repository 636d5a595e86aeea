"""Rules of the package's own language that a short test can see: sizes, characters, words and imports."""

import ast
import re
import unittest
import warnings
from pathlib import Path

PACKAGE = Path(__file__).resolve().parent.parent / "bestround"
BARRED_WORDS = ("type", "typing", "enum", "dataclass", "overload", "contextmanager", "namedtuple", "Generic", "Flag",
                "Protocol", "abstractmethod")
BUILTINS = {"len", "range", "enumerate", "zip", "min", "max", "sum", "abs", "sorted", "reversed", "int", "str", "bool",
            "list", "tuple", "dict", "set", "isinstance", "ord", "repr", "any", "all", "divmod", "ValueError",
            "KeyError", "IndexError", "super"}
METHODS = {"__init__", "__eq__", "__repr__", "__str__", "__len__"}


def files():
    return sorted(PACKAGE.rglob("*.py"))


def tree_of(path):
    with warnings.catch_warnings():
        warnings.simplefilter("error")
        text = path.read_text(encoding="ascii")
        compile(text, str(path), "exec")
        return ast.parse(text)


def nodes(path, *kinds):
    return [node for node in ast.walk(tree_of(path)) if isinstance(node, kinds)]


class LanguageTest(unittest.TestCase):
    def test_the_folder_holds_nothing_else(self):
        others = [path for path in PACKAGE.rglob("*") if path.is_file() and path.suffix != ".py"
                  and "__pycache__" not in path.parts]
        self.assertEqual(others, [])
        self.assertIn(PACKAGE / "__init__.py", files())

    def test_sizes(self):
        for path in files():
            rows = path.read_text(encoding="ascii").split("\n")
            self.assertLess(len(rows), 400, path)
            self.assertLessEqual(max(len(row) for row in rows), 120, path)
            for function in nodes(path, ast.FunctionDef):
                self.assertLessEqual(function.end_lineno - function.lineno + 1, 40, function.name)

    def test_characters_and_words(self):
        for path in files():
            text = path.read_text(encoding="ascii")
            self.assertEqual(re.sub(r"[ -~\n]", "", text), "", path)
            for word in BARRED_WORDS:
                self.assertIsNone(re.search(rf"\b{word}\b", text), (path, word))
            for constant in nodes(path, ast.Constant):
                self.assertNotIn("%", str(constant.value))

    def test_imports(self):
        for path in files():
            self.assertEqual(nodes(path, ast.Import), [], path)
            for found in nodes(path, ast.ImportFrom):
                self.assertEqual(found.level, 0)
                folder, name = found.module.split(".")
                self.assertEqual(folder, PACKAGE.name)
                defined = [getattr(node, "name", None) or node.targets[0].id
                           for node in tree_of(PACKAGE / f"{name}.py").body
                           if isinstance(node, (ast.FunctionDef, ast.ClassDef, ast.Assign))]
                for alias in found.names:
                    self.assertIn(alias.name, defined, path)

    def test_names(self):
        for path in files():
            for node in nodes(path, ast.FunctionDef, ast.ClassDef):
                self.assertTrue(node.name in METHODS or not node.name.startswith("_"), node.name)
                self.assertEqual(node.decorator_list, [])
            for node in nodes(path, ast.Name):
                self.assertFalse(node.id.startswith("_"), (path, node.id))
            for node in nodes(path, ast.Attribute):
                self.assertTrue(node.attr in METHODS or not node.attr.startswith("_"), (path, node.attr))

    def test_builtins(self):
        import builtins
        for path in files():
            for node in nodes(path, ast.Name):
                if hasattr(builtins, node.id):
                    self.assertIn(node.id, BUILTINS, path)
                    self.assertIsInstance(node.ctx, ast.Load, (path, node.id))

    def test_statements_and_signs(self):
        barred = (ast.Global, ast.Div, ast.AsyncFunctionDef, ast.Await)
        for path in files():
            self.assertEqual(nodes(path, *barred), [], path)
            for node in nodes(path, ast.Constant):
                self.assertNotIsInstance(node.value, (float, complex), path)


    def test_no_name_is_both_a_method_and_an_attribute(self):
        methods, attributes = set(), set()
        for path in files():
            for kind in nodes(path, ast.ClassDef):
                methods |= {node.name for node in kind.body if isinstance(node, ast.FunctionDef)}
            attributes |= {node.attr for node in nodes(path, ast.Attribute) if isinstance(node.ctx, ast.Store)}
        self.assertGreater(len(attributes), 10)
        self.assertEqual(methods & attributes, set())

    def test_no_generators(self):
        for path in files():
            self.assertEqual(nodes(path, ast.GeneratorExp, ast.Yield, ast.YieldFrom), [], path)

    def test_no_local_name_is_an_import_or_a_class(self):
        for path in files():
            taken = {alias.name for node in nodes(path, ast.ImportFrom) for alias in node.names}
            taken |= {node.name for node in nodes(path, ast.ClassDef)}
            local = {node.id for node in nodes(path, ast.Name) if isinstance(node.ctx, ast.Store)}
            local |= {node.arg for node in nodes(path, ast.arg)}
            self.assertEqual(taken & local, set(), path)


if __name__ == "__main__":
    unittest.main()
