"""Rules of ../shared/LANGUAGE.md that can be seen in the files of the package."""

import ast
import os
import re
import unittest

PACKAGE = os.path.join(os.path.dirname(os.path.dirname(os.path.abspath(__file__))), "heldflows")
LIBRARY = ("heapq", "math", "itertools", "collections")
UNUSED = ("type", "typing", "enum", "namedtuple", "dataclass", "abstractmethod", "Protocol", "Generic", "ABC")


def files():
    """Returns the pairs of the module names and the texts of all files of the package."""
    found = {}
    for name in sorted(os.listdir(PACKAGE)):
        if name != "__pycache__":
            with open(os.path.join(PACKAGE, name), encoding="utf-8", newline="") as file:
                found[name] = file.read()
    return found


def imports_of(text):
    """Returns the imports of a file."""
    return [node for node in ast.walk(ast.parse(text)) if isinstance(node, (ast.Import, ast.ImportFrom))]


def own_imports_of(text):
    """Returns the file names of the package from which a file imports."""
    own = [node.module for node in imports_of(text) if node.module.startswith("heldflows.")]
    return [module.split(".", 1)[1] + ".py" for module in own]


def defined_in(text):
    """Returns the names that a file binds at module level, other than by imports."""
    found = []
    for node in ast.parse(text).body:
        if isinstance(node, (ast.FunctionDef, ast.ClassDef)):
            found.append(node.name)
        if isinstance(node, ast.Assign):
            found.extend(target.id for target in node.targets)
    return found


class FilesTest(unittest.TestCase):
    def test_plain_files_only(self):
        self.assertIn("__init__.py", files())
        for name in files():
            self.assertRegex(name, r"\A(__init__|[a-z][a-z0-9_]*)\.py\Z")
            self.assertNotRegex(name, r"\A(test|conftest|law_)")

    def test_sizes(self):
        for name, text in files().items():
            self.assertLessEqual(text.count("\n"), 399, name)
            for line in text.split("\n"):
                self.assertLessEqual(len(line), 120, (name, line))
            for node in ast.walk(ast.parse(text)):
                if isinstance(node, ast.FunctionDef):
                    self.assertLessEqual(node.end_lineno - node.lineno + 1, 40, (name, node.name))

    def test_characters(self):
        for name, text in files().items():
            self.assertRegex(text, r"\A[ -~\n]*\Z", name)

    def test_names_are_bound_once(self):
        for name, text in files().items():
            names = defined_in(text)
            for node in imports_of(text):
                names.extend(alias.asname or alias.name for alias in node.names)
            self.assertEqual(len(names), len(set(names)), name)

    def test_unused_words(self):
        for name, text in files().items():
            for node in ast.walk(ast.parse(text)):
                for word in (getattr(node, "id", None), getattr(node, "attr", None), getattr(node, "arg", None)):
                    self.assertNotIn(word, UNUSED, name)
                self.assertNotIsInstance(node, (ast.Global, ast.AsyncFunctionDef, ast.Div), name)
            self.assertIsNone(re.search(r"\b(chr|print|eval|exec|float|bytearray)\(", text), name)


class ImportsTest(unittest.TestCase):
    def test_each_names_the_file_that_defines_the_name(self):
        texts = files()
        for name, text in texts.items():
            for node in imports_of(text):
                self.assertIsInstance(node, ast.ImportFrom, name)
                if node.module in LIBRARY:
                    continue
                self.assertRegex(node.module, r"\Aheldflows\.[a-z]+\Z", name)
                for alias in node.names:
                    self.assertIn(alias.name, defined_in(texts[node.module.split(".")[1] + ".py"]), name)

    def test_no_two_files_import_from_each_other(self):
        left = {name: own_imports_of(text) for name, text in files().items()}
        while left:
            free = [name for name in left if not any(other in left for other in left[name])]
            self.assertNotEqual(free, [], left)
            for name in free:
                del left[name]


if __name__ == "__main__":
    unittest.main()
