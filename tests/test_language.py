"""Some rules of ../shared/LANGUAGE.md that can be checked from the code alone."""

import ast
import builtins
import os
import re
import unittest

PACKAGE = os.path.join(os.path.dirname(os.path.dirname(os.path.abspath(__file__))), "overlayhall")

# L8, and L5 for super: the builtins that may be used.
ALLOWED = set(
    "len range enumerate zip min max sum abs sorted reversed int str bool list tuple dict set isinstance ord repr any "
    "all divmod pow super Exception ValueError TypeError KeyError IndexError LookupError ZeroDivisionError".split()
)

# L6, L7: what the language has no room for here.
BARRED = (
    ast.Global, ast.AsyncFunctionDef, ast.AsyncFor, ast.AsyncWith, ast.Await, ast.Import, ast.Div,
)

# L17: words that stand nowhere in the code.
WORDS = re.compile(r"\b(type|typing|enum|Enum|ABC|law|register|mro|elements|open|input|namedtuple)\b")


class LanguageTest(unittest.TestCase):
    def setUp(self):
        self.texts = {}
        for name in sorted(os.listdir(PACKAGE)):
            if name != "__pycache__":
                with open(os.path.join(PACKAGE, name), encoding="utf-8") as file:
                    self.texts[name] = file.read()
        self.trees = {name: ast.parse(text) for name, text in self.texts.items()}

    def nodes(self):
        for name, tree in self.trees.items():
            for node in ast.walk(tree):
                yield name, node

    def test_l1_the_folder_holds_plain_files_alone(self):
        for name in self.texts:
            self.assertRegex(name, r"\A[a-z0-9_]+\.py\Z")

    def test_l2_imports_are_of_the_package_by_full_names(self):
        for name, node in self.nodes():
            if isinstance(node, ast.ImportFrom):
                self.assertEqual(node.level, 0, name)
                self.assertRegex(node.module, r"\Aoverlayhall\.[a-z_]+\Z", name)
                self.assertIn(node.module.split(".")[1] + ".py", self.texts)
                for alias in node.names:
                    self.assertNotEqual(alias.name, "*", name)

    def test_l6_l7_no_barred_statement_or_value(self):
        for name, node in self.nodes():
            self.assertNotIsInstance(node, BARRED, name)
            if isinstance(node, ast.Constant):
                self.assertNotIsInstance(node.value, (float, complex), name)

    def test_l8_only_the_builtins_that_are_listed(self):
        others = set(dir(builtins)) - ALLOWED
        for name, node in self.nodes():
            if isinstance(node, ast.Name):
                self.assertNotIn(node.id, others, name)
            if isinstance(node, (ast.FunctionDef, ast.ClassDef)):
                self.assertNotIn(node.name, dir(builtins), name)
            if isinstance(node, ast.arg):
                self.assertNotIn(node.arg, dir(builtins), name)

    def test_l10_sizes(self):
        for name, text in self.texts.items():
            lines = text.splitlines()
            self.assertLessEqual(len(lines), 399, name)
            for line in lines:
                self.assertLessEqual(len(line), 120, name)
        for name, node in self.nodes():
            if isinstance(node, ast.FunctionDef):
                self.assertLessEqual(node.end_lineno - node.lineno + 1, 40, (name, node.name))

    def test_l14_characters(self):
        for name, text in self.texts.items():
            self.assertRegex(text, r"\A[ -~\n]*\Z", name)

    def test_l16_no_files_import_from_each_other(self):
        wants = {
            name: {
                node.module.split(".")[1] + ".py" for node in ast.walk(tree) if isinstance(node, ast.ImportFrom)
            }
            for name, tree in self.trees.items()
        }
        while wants:
            free = [name for name in wants if not wants[name] & set(wants)]
            self.assertTrue(free, sorted(wants))
            for name in free:
                del wants[name]

    def test_l17_no_barred_word(self):
        for name, text in self.texts.items():
            self.assertNotRegex(text, WORDS, name)

    def test_l27_no_percent_sign_in_a_string(self):
        for name, node in self.nodes():
            if isinstance(node, ast.Constant) and isinstance(node.value, str):
                self.assertNotIn("%", node.value, name)


if __name__ == "__main__":
    unittest.main()
