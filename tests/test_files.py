"""Checks of the language rules that can be seen without knowing the program."""

import ast
import builtins
import doctest
import re
import unittest
import warnings
from pathlib import Path

PACKAGE = Path(__file__).resolve().parent.parent / "fewspans"
FILES = sorted(PACKAGE.rglob("*.py"))
TEXTS = {path.name: path.read_text(encoding="utf-8") for path in FILES}
BARRED_WORDS = (
    "type typing typing_extensions enum Enum IntEnum StrEnum Flag IntFlag Generic Protocol ABC ABCMeta namedtuple "
    "NamedTuple TypedDict TYPE_CHECKING abstractmethod"
).split()
BARRED_PARTS = ("dataclass", "overload", "contextmanager")


class Files(unittest.TestCase):
    def test_package_is_there(self):
        self.assertIn(PACKAGE / "__init__.py", FILES)

    def test_readme_examples(self):
        failed, tried = doctest.testfile(str(PACKAGE.parent / "README.md"), module_relative=False)
        self.assertGreater(tried, 0)
        self.assertEqual(failed, 0)

    def test_only_python_files(self):
        others = [path for path in PACKAGE.rglob("*") if path.is_file() and path.suffix not in (".py", ".pyc")]
        self.assertEqual(others, [])

    def test_sizes_and_characters(self):
        for name, text in TEXTS.items():
            lines = text.splitlines()
            self.assertLessEqual(len(lines), 400, name)
            self.assertLessEqual(max(map(len, lines)), 120, name)
            self.assertEqual(re.findall(r"[^ -~\n]", text), [], name)
            for node in ast.walk(ast.parse(text)):
                if isinstance(node, ast.FunctionDef):
                    self.assertLessEqual(node.end_lineno - node.lineno + 1, 40, node.name)

    def test_imports(self):
        for name, text in TEXTS.items():
            for node in ast.walk(ast.parse(text)):
                self.assertNotIsInstance(node, ast.Import, name)
                if isinstance(node, ast.ImportFrom):
                    self.assertEqual(node.level, 0, name)
                    self.assertTrue(node.module.startswith(("fewspans.", "__future__")), f"{name}: {node.module}")

    def test_barred_words(self):
        for name, text in TEXTS.items():
            words = re.findall(r"\w+", text)
            self.assertEqual([word for word in words if word in BARRED_WORDS], [], name)
            self.assertEqual([part for part in BARRED_PARTS if part in text], [], name)

    def test_local_names(self):
        for name, text in TEXTS.items():
            nodes = list(ast.walk(ast.parse(text)))
            taken = {alias.name for node in nodes if isinstance(node, ast.ImportFrom) for alias in node.names}
            taken |= {node.name for node in nodes if isinstance(node, ast.ClassDef)} | set(dir(builtins))
            given = {node.arg for node in nodes if isinstance(node, ast.arg)}
            given |= {node.id for node in nodes if isinstance(node, ast.Name) and isinstance(node.ctx, ast.Store)}
            self.assertEqual(given & taken, set(), name)
            self.assertEqual([local for local in given if local.startswith("_")], [], name)

    def test_methods_and_attributes(self):
        nodes = [node for text in TEXTS.values() for node in ast.walk(ast.parse(text))]
        parts = [part for node in nodes if isinstance(node, ast.ClassDef) for part in node.body]
        methods = {part.name for part in parts if isinstance(part, ast.FunctionDef)}
        stored = {node.attr for node in nodes if isinstance(node, ast.Attribute) and isinstance(node.ctx, ast.Store)}
        self.assertEqual(methods & stored, set())

    def test_lists_instead_of_generators(self):
        for name, text in TEXTS.items():
            for node in ast.walk(ast.parse(text)):
                self.assertNotIsInstance(node, ast.GeneratorExp, name)

    def test_identity(self):
        for name, text in TEXTS.items():
            for node in ast.walk(ast.parse(text)):
                if isinstance(node, ast.Compare):
                    for sign, right in zip(node.ops, node.comparators):
                        if isinstance(sign, (ast.Is, ast.IsNot)):
                            self.assertIn(ast.unparse(right), ("None", "True", "False"), name)

    def test_no_warning(self):
        for name, text in TEXTS.items():
            with warnings.catch_warnings():
                warnings.simplefilter("error")
                compile(text, name, "exec")


if __name__ == "__main__":
    unittest.main()
