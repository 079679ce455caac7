"""The files of the package: the interface that has landed, and what can be seen of the language rules."""

import ast
import builtins
import os
import re
import unittest

ROOT = os.path.dirname(os.path.dirname(os.path.abspath(__file__)))
PACKAGE = os.path.join(ROOT, "flagsteps")

# For each file its functions, and its classes with their methods.
INTERFACE = {
    "errors.py": {name: () for name in (
        "StepError", "InvalidRules", "InvalidClause", "UnknownClause", "UnknownSwitch", "Impossible", "InvalidState",
        "IllegalState", "IllegalStep", "NoWay", "NoGoal", "AlreadyOpen", "InvalidStates", "TooManyClauses",
        "DifferentNames", "InvalidOperation", "TooManySwitches", "LastSwitch", "InvalidName", "NotationError",
        "InvalidCount", "DecodeError")},
    "rules.py": {"Rules": ("__init__", "names", "clauses", "free", "with_clause", "without_clause", "broken_clauses",
                           "is_legal")},
    "states.py": {"legal_states": None, "count_legal": None, "majority": None},
    "groups.py": {"constants": None, "bound_groups": None, "settings": None},
    "islands.py": {"Island": ("settings", "first", "size", "states"), "islands": None, "count_islands": None,
                   "island_of": None, "same_island": None},
    "ways.py": {"order_pairs": None, "find_way": None, "is_circle": None, "all_ways": None, "count_ways": None,
                "must_precede": None, "states_on_way": None},
    "rounds.py": {"find_rounds": None, "fewest_rounds": None, "round_range": None, "find_batches": None,
                  "least_batch": None},
    "rollout.py": {"Rollout": ("__init__", "state", "target", "history", "remaining", "change", "attempt", "advance",
                               "undo", "redo", "resumed", "__enter__", "__exit__")},
    "learning.py": {"common_clauses": None, "learn_rules": None, "closure": None, "redundant_clauses": None,
                    "first_difference": None, "first_error": None},
    "editing.py": {"Workbench": ("__init__", "present_rules", "history", "versions", "add_clause", "remove_clause",
                                 "add_switch", "remove_switch", "rename", "undo", "redo", "apply_all", "replay")},
    "notation.py": {"format_rules": None, "parse_rules": None, "format_log": None, "parse_log": None},
    "codec.py": {"pack_bytes": None, "unpack_bytes": None, "encode_rollout": None, "decode_rollout": None},
}
# The arguments as the interface writes them, without self and cls.
ARGUMENTS = {
    "rules.py": {"Rules.__init__": "names, clauses", "Rules.free": "*names", "Rules.with_clause": "clause",
                 "Rules.without_clause": "index", "Rules.broken_clauses": "state", "Rules.is_legal": "state"},
    "states.py": {"legal_states": "rules", "count_legal": "rules", "majority": "rules, *states"},
    "groups.py": {"constants": "rules", "bound_groups": "rules", "settings": "rules, state"},
    "islands.py": {"islands": "rules", "count_islands": "rules", "island_of": "rules, state",
                   "same_island": "rules, state, other"},
    "ways.py": {"order_pairs": "rules, start, goal", "find_way": "rules, start, goal",
                "is_circle": "rules, start, goal, circle", "all_ways": "rules, start, goal",
                "count_ways": "rules, start, goal", "must_precede": "rules, start, goal, first, later",
                "states_on_way": "rules, start, way"},
    "rounds.py": {"find_rounds": "rules, start, goal", "fewest_rounds": "rules, start, goal",
                  "round_range": "rules, start, goal, name", "find_batches": "rules, start, goal",
                  "least_batch": "rules, start, goal"},
    "rollout.py": {"Rollout.__init__": "rules, state, *, goal=None", "Rollout.change": "*names",
                   "Rollout.attempt": "*names", "Rollout.advance": "count=1", "Rollout.undo": "", "Rollout.redo": "",
                   "Rollout.resumed": "rules, state, changes, *, goal=None"},
    "learning.py": {"common_clauses": "names, states", "learn_rules": "names, states", "closure": "names, states",
                    "redundant_clauses": "rules", "first_difference": "rules, other", "first_error": "rules, log"},
    "editing.py": {"Workbench.__init__": "rules", "Workbench.versions": "", "Workbench.add_clause": "clause",
                   "Workbench.remove_clause": "index", "Workbench.add_switch": "name",
                   "Workbench.remove_switch": "name", "Workbench.rename": "name, later", "Workbench.undo": "",
                   "Workbench.redo": "", "Workbench.apply_all": "operations",
                   "Workbench.replay": "rules, operations"},
    "notation.py": {"format_rules": "rules", "parse_rules": "text", "format_log": "rules, states",
                    "parse_log": "rules, text"},
    "codec.py": {"pack_bytes": "values", "unpack_bytes": "data", "encode_rollout": "rules, state, changes",
                 "decode_rollout": "data"},
}
LIBRARY = {"itertools": {"combinations"}}
DECORATORS = {"property", "classmethod", "staticmethod"}
LEFT_OUT = (ast.Global, ast.AsyncFunctionDef, ast.AsyncFor, ast.AsyncWith, ast.Await, ast.Div, ast.Import)
# What L12 bars: names, also with digits or underscores after them; beginnings of names, one of which attributes and
# methods may have; and words, also in comments and strings.
BARRED_NAMES = ("_cold", "_tuplegetter", "_outside", "_record", "_written_out", "_member_names")
BARRED_BEGINNINGS = ("_pe_", "_dcw_", "_enum_", "_cm_", "_twin_re_", "_lay_", "_law_", "_stub_", "_sre", "_WallAttr")
BEGINNING_FOR_ATTRIBUTES = "_wall"
BARRED_WORDS = ("_wall", "_WallAttr")


def files_of_the_package():
    return sorted(name for name in os.listdir(PACKAGE) if name != "__pycache__")


def text_of(name):
    with open(os.path.join(PACKAGE, name), encoding="utf-8", newline="") as file:
        return file.read()


def nodes_of(name):
    return list(ast.walk(ast.parse(text_of(name))))


def functions_with_arguments(body):
    """The arguments of all functions and methods, these without the first one."""
    found = {}
    for node in body:
        if isinstance(node, ast.FunctionDef):
            found[node.name] = ast.unparse(node.args)
        elif isinstance(node, ast.ClassDef):
            for name, arguments in functions_with_arguments(node.body).items():
                found[f"{node.name}.{name}"] = ", ".join(arguments.split(", ")[1:])
    return found


def bound_names(name):
    """All names that a file binds: its functions, classes, parameters and variables."""
    found = set()
    for node in nodes_of(name):
        if isinstance(node, ast.ClassDef):
            found.add(node.name)
        elif isinstance(node, ast.arg):
            found.add(node.arg)
        elif isinstance(node, ast.Name) and isinstance(node.ctx, ast.Store):
            found.add(node.id)
    return found | {node.name for node in ast.parse(text_of(name)).body if isinstance(node, ast.FunctionDef)}


def strings_of(node):
    """The strings that a node itself holds: its names, or the text of a literal."""
    found = []
    for _, value in ast.iter_fields(node):
        values = value if isinstance(value, list) else [value]
        found.extend(each for each in values if isinstance(each, str))
    return found


def names_in(text):
    """All names in the text of a file, each with whether it belongs to an attribute or a method."""
    tree = ast.parse(text)
    methods = [each for node in ast.walk(tree) if isinstance(node, ast.ClassDef) for each in node.body]
    found = set()
    for node in ast.walk(tree):
        # Literals count, because a slot is written as a string.
        is_attribute = isinstance(node, (ast.Attribute, ast.MatchClass, ast.Constant))
        is_method = isinstance(node, ast.FunctionDef) and node in methods
        for string in strings_of(node):
            found |= {(name, is_attribute or is_method) for name in string.split(".") if name.isidentifier()}
    return found


def is_barred(name, may_be_wall):
    """Whether L12 bars a name."""
    if re.fullmatch(f"({'|'.join(BARRED_NAMES)})[0-9_]*", name) or name.startswith(BARRED_BEGINNINGS):
        return True
    return name.startswith(BEGINNING_FOR_ATTRIBUTES) and not may_be_wall


def barred_in(text):
    """The sorted names and words in the text of a file that L12 bars."""
    words = re.findall(f"\\b({'|'.join(BARRED_WORDS)})\\b", text)
    return sorted({name for name, is_attribute in names_in(text) if is_barred(name, is_attribute)} | set(words))


class InterfaceTest(unittest.TestCase):
    def test_each_name_is_defined_in_its_file(self):
        for file, expected in INTERFACE.items():
            body = ast.parse(text_of(file)).body
            classes = {node.name: node for node in body if isinstance(node, ast.ClassDef)}
            functions = {node.name for node in body if isinstance(node, ast.FunctionDef)}
            for name, methods in expected.items():
                with self.subTest(f"{file} {name}"):
                    if methods is None:
                        self.assertIn(name, functions)
                    else:
                        own = {node.name for node in classes[name].body if isinstance(node, ast.FunctionDef)}
                        self.assertLessEqual(set(methods), own)

    def test_arguments(self):
        for file, expected in ARGUMENTS.items():
            found = functions_with_arguments(ast.parse(text_of(file)).body)
            for name, arguments in expected.items():
                with self.subTest(f"{file} {name}"):
                    self.assertEqual(found[name], arguments)


class LanguageTest(unittest.TestCase):
    def test_files(self):
        self.assertIn("__init__.py", files_of_the_package())
        for name in files_of_the_package():
            self.assertRegex(name, r"\A[a-z_]+\.py\Z")

    def test_characters_and_lines(self):
        for name in files_of_the_package():
            text = text_of(name)
            self.assertTrue(all(sign == "\n" or " " <= sign <= "~" for sign in text), name)
            self.assertLessEqual(max(len(line) for line in text.split("\n")), 120, name)
            self.assertLessEqual(len(text.split("\n")), 399, name)

    def test_functions_are_short(self):
        for name in files_of_the_package():
            for node in nodes_of(name):
                if isinstance(node, ast.FunctionDef):
                    self.assertLessEqual(node.end_lineno - node.lineno + 1, 40, f"{name} {node.name}")

    def test_imports(self):
        for name in files_of_the_package():
            for node in nodes_of(name):
                if isinstance(node, ast.ImportFrom):
                    words = {each.name for each in node.names}
                    self.assertEqual([node.level, [each.asname for each in node.names if each.asname]], [0, []])
                    if not node.module.startswith("flagsteps."):
                        self.assertLessEqual(words, LIBRARY[node.module], name)

    def test_no_builtin_gets_another_meaning(self):
        for name in files_of_the_package():
            self.assertEqual(bound_names(name) & set(dir(builtins)), set(), name)

    def test_imports_do_not_go_in_circles(self):
        imports = {name: {node.module.rpartition(".")[2] + ".py" for node in nodes_of(name)
                          if isinstance(node, ast.ImportFrom) and node.module.startswith("flagsteps.")}
                   for name in files_of_the_package()}
        while imports:
            ready = [name for name, needed in imports.items() if not needed & set(imports)]
            self.assertNotEqual(ready, [])
            for name in ready:
                del imports[name]

    def test_statements_and_values(self):
        for name in files_of_the_package():
            for node in nodes_of(name):
                self.assertNotIsInstance(node, LEFT_OUT, name)
                if isinstance(node, ast.Constant):
                    self.assertNotIsInstance(node.value, (float, complex), name)
                if isinstance(node, ast.ClassDef):
                    self.assertEqual(node.decorator_list, [], name)
                if isinstance(node, ast.FunctionDef):
                    self.assertLessEqual({ast.unparse(each) for each in node.decorator_list}, DECORATORS, name)

    def test_no_name_is_barred(self):
        for name in files_of_the_package():
            self.assertEqual(barred_in(text_of(name)), [], name)
            self.assertFalse(is_barred(name.removesuffix(".py"), False), name)


class BarredNamesTest(unittest.TestCase):
    """That the check of the package finds what L12 bars, wherever it stands, and nothing else."""

    PLACES = (
        "NAME = 1", "NAME: int = 1", "def NAME():\n    pass", "class NAME:\n    pass",
        "def f(NAME):\n    pass", "def f(*NAME):\n    pass", "def f(**NAME):\n    pass",
        "def f(*, NAME=0):\n    pass", "def f():\n    def NAME():\n        pass", "f(NAME=1)", "x = NAME",
        "x = lambda NAME: 0", "x = [0 for NAME in y]", "x = f'{NAME}'", "if (NAME := 1):\n    pass",
        "for NAME in x:\n    pass", "with x as NAME:\n    pass", "a, *NAME = x", "del NAME",
        "try:\n    pass\nexcept E as NAME:\n    pass", "def f():\n    nonlocal NAME",
        "match x:\n    case [NAME]:\n        pass", "match x:\n    case [*NAME]:\n        pass",
        "match x:\n    case 1 as NAME:\n        pass",
        "from flagsteps.NAME import x", "from flagsteps.rules import NAME", "from flagsteps.rules import x as NAME",
        "class C:\n    NAME = 1")
    PLACES_OF_ATTRIBUTES = (
        "x.NAME = 1", "x.NAME()", "y = x.NAME", "class C:\n    def NAME(self):\n        pass",
        "class C:\n    @property\n    def NAME(self):\n        return 1", "class C:\n    __slots__ = ('NAME',)",
        "match x:\n    case C(NAME=1):\n        pass")

    def found(self, place, name):
        return barred_in(place.replace("NAME", name) + "\n")

    def test_barred_names(self):
        for name in BARRED_NAMES:
            for end in ("", "_", "2", "_2", "__"):
                for place in self.PLACES + self.PLACES_OF_ATTRIBUTES:
                    with self.subTest(place=place, name=name + end):
                        self.assertEqual(self.found(place, name + end), [name + end])

    def test_barred_beginnings(self):
        for beginning in BARRED_BEGINNINGS:
            for end in ("", "x", "2"):
                for place in self.PLACES + self.PLACES_OF_ATTRIBUTES:
                    with self.subTest(place=place, name=beginning + end):
                        self.assertEqual(self.found(place, beginning + end), [beginning + end])

    def test_a_beginning_that_only_attributes_and_methods_may_have(self):
        for place in self.PLACES:
            with self.subTest(place=place):
                self.assertEqual(self.found(place, "_walls"), ["_walls"])
        for place in self.PLACES_OF_ATTRIBUTES:
            with self.subTest(place=place):
                self.assertEqual(self.found(place, "_walls"), [])
                self.assertEqual(self.found(place, "_wall"), ["_wall"])

    def test_barred_words(self):
        for word in BARRED_WORDS:
            for place in ("# a NAME here", "x = 'a NAME here'", "'NAME'", "x = b'NAME'", "x = f'a NAME {y}'"):
                with self.subTest(place=place, word=word):
                    self.assertEqual(self.found(place, word), [word])

    def test_other_names(self):
        others = ("record", "_records", "_record_rows", "_recorded", "x_record", "_colder", "_outsider", "_law",
                  "_layer", "_enumerated", "_stubs", "_pet", "_sr", "wall", "x_wall", "WallAttr", "_Wall")
        for name in others:
            for place in self.PLACES + self.PLACES_OF_ATTRIBUTES:
                with self.subTest(place=place, name=name):
                    self.assertEqual(self.found(place, name), [])
        self.assertEqual(barred_in("# _record\nx = 'a _record here'\n"), [])


if __name__ == "__main__":
    unittest.main()
