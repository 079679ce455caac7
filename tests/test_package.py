"""The files of the package: the interface that has landed, and what can be seen of the language rules."""

import ast
import os
import unittest

ROOT = os.path.dirname(os.path.dirname(os.path.abspath(__file__)))
PACKAGE = os.path.join(ROOT, "flagsteps")

# For each file its functions, and its classes with their methods.
INTERFACE = {
    "errors.py": {name: () for name in (
        "StepError", "InvalidRules", "InvalidClause", "UnknownClause", "UnknownSwitch", "Impossible", "InvalidState",
        "IllegalState", "IllegalStep", "NoWay", "NoGoal", "AlreadyOpen", "InvalidStates", "TooManyClauses",
        "DifferentNames", "InvalidOperation", "TooManySwitches", "LastSwitch", "InvalidName", "NotationError",
        "InvalidCount", "DecodeError")},
    "rules.py": {"Rules": ("__init__", "names", "clauses", "free", "with_clause", "without_clause", "broken_clauses",
                           "is_legal")},
    "states.py": {"legal_states": None, "count_legal": None, "majority": None},
    "groups.py": {"constants": None, "bound_groups": None, "settings": None},
}
LIBRARY = {"itertools": {"combinations"}}
DECORATORS = {"property", "classmethod", "staticmethod"}
LEFT_OUT = (ast.Global, ast.AsyncFunctionDef, ast.AsyncFor, ast.AsyncWith, ast.Await, ast.Div, ast.Import)


def files_of_the_package():
    return sorted(name for name in os.listdir(PACKAGE) if name != "__pycache__")


def text_of(name):
    with open(os.path.join(PACKAGE, name), encoding="utf-8", newline="") as file:
        return file.read()


def nodes_of(name):
    return list(ast.walk(ast.parse(text_of(name))))


class InterfaceTest(unittest.TestCase):
    def test_each_name_is_defined_in_its_file(self):
        for file, expected in INTERFACE.items():
            body = ast.parse(text_of(file)).body
            classes = {node.name: node for node in body if isinstance(node, ast.ClassDef)}
            functions = {node.name for node in body if isinstance(node, ast.FunctionDef)}
            for name, methods in expected.items():
                with self.subTest(f"{file} {name}"):
                    if methods is None:
                        self.assertIn(name, functions)
                    else:
                        own = {node.name for node in classes[name].body if isinstance(node, ast.FunctionDef)}
                        self.assertLessEqual(set(methods), own)


class LanguageTest(unittest.TestCase):
    def test_files(self):
        self.assertIn("__init__.py", files_of_the_package())
        for name in files_of_the_package():
            self.assertRegex(name, r"\A[a-z_]+\.py\Z")

    def test_characters_and_lines(self):
        for name in files_of_the_package():
            text = text_of(name)
            self.assertTrue(all(sign == "\n" or " " <= sign <= "~" for sign in text), name)
            self.assertLessEqual(max(len(line) for line in text.split("\n")), 120, name)
            self.assertLessEqual(len(text.split("\n")), 399, name)

    def test_functions_are_short(self):
        for name in files_of_the_package():
            for node in nodes_of(name):
                if isinstance(node, ast.FunctionDef):
                    self.assertLessEqual(node.end_lineno - node.lineno + 1, 40, f"{name} {node.name}")

    def test_imports(self):
        for name in files_of_the_package():
            for node in nodes_of(name):
                if isinstance(node, ast.ImportFrom):
                    words = {each.name for each in node.names}
                    self.assertEqual([node.level, [each.asname for each in node.names if each.asname]], [0, []])
                    if not node.module.startswith("flagsteps."):
                        self.assertLessEqual(words, LIBRARY[node.module], name)

    def test_statements_and_values(self):
        for name in files_of_the_package():
            for node in nodes_of(name):
                self.assertNotIsInstance(node, LEFT_OUT, name)
                if isinstance(node, ast.Constant):
                    self.assertNotIsInstance(node.value, (float, complex), name)
                if isinstance(node, ast.ClassDef):
                    self.assertEqual(node.decorator_list, [], name)
                if isinstance(node, ast.FunctionDef):
                    self.assertLessEqual({ast.unparse(each) for each in node.decorator_list}, DECORATORS, name)


if __name__ == "__main__":
    unittest.main()
