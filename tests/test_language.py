import ast
import pathlib
import re
import unittest

import crowdroads
from language_rules import PACKAGE, dir_of_values, faults_of

FOLDER = pathlib.Path(crowdroads.__file__).parent

# Each is outside the rule beside it.
OUTSIDE = (
    ("L2", "from math import gcd\n"),
    ("L2", "from .errors import NoNet\n"),
    ("L3", "print(1)\n"),
    ("L4", "def f(*things):\n    return things\n"),
    ("L5", "class A:\n    b = 1\n"),
    ("L6", "def f(a):\n    b = c = a\n    return b + c\n"),
    ("L6", "def f(a):\n    assert a\n"),
    ("L6", "def f(a):\n    return a / 2\n"),
    ("L6", "def f(a):\n    return sum(b for b in a)\n"),
    ("L7", "A = 1.5\n"),
    ("L8", "def f(a):\n    return hash(a)\n"),
    ("L10", "A = 1" + " " * 120 + "\n"),
    ("L10", "def f(a):\n" + "    a = a + 1\n" * 40 + "    return a\n"),
    ("L12", "def _f(a):\n    return a\n"),
    ("L14", "A = 1\t\n"),
    ("L15", "A = 1\nA = 2\n"),
    ("L15", "def f(max):\n    return max\n"),
    ("L15", "from crowdroads.nets import made_net\n\n\ndef f(made_net):\n    return made_net\n"),
    ("L15", "from crowdroads.nets import made_net\n\n\ndef f(a):\n    made_net = a\n    return made_net\n"),
    ("L16", "import sys\n"),
    ("L17", "# of another type\n"),
    ("L19", "def f(a):\n    try:\n        return int(a)\n    except Exception:\n        return 0\n"),
    ("L20", "def f(a, b):\n    return a is b\n"),
    ("L21", "def f(a: int):\n    return a\n"),
    ("L23", "def f(a):\n    b = zip(a, a)\n    return list(b)\n"),
    ("L23", "def f(a):\n    return a.items()\n"),
    ("L25", "def f(a):\n    return a.casefold()\n"),
    ("L27", "A = \"1 %\"\n"),
)


def sources():
    return sorted(path for path in FOLDER.rglob("*") if "__pycache__" not in path.parts)


def drawn_from(path):
    """For each row of imports of a file: the file that it draws from, and the names."""
    rows = [node for node in ast.parse(path.read_text()).body if isinstance(node, ast.ImportFrom)]
    return [(node.module.split(".")[1], [alias.name for alias in node.names]) for node in rows]


def defined_in(path):
    nodes = ast.parse(path.read_text()).body
    found = [node.name for node in nodes if isinstance(node, (ast.FunctionDef, ast.ClassDef))]
    return found + [node.targets[0].id for node in nodes if isinstance(node, ast.Assign)]


def methods_and_values(texts):
    """The names of all methods in some files' texts, and of all values that are set on an object."""
    methods = []
    values = []
    for text in texts:
        for node in ast.walk(ast.parse(text)):
            if isinstance(node, ast.ClassDef):
                methods += [part.name for part in node.body if isinstance(part, ast.FunctionDef)]
            if isinstance(node, ast.Attribute) and isinstance(node.ctx, ast.Store):
                values.append(node.attr)
    return set(methods), set(values)


class LanguageTest(unittest.TestCase):
    """The package keeps to ../shared/LANGUAGE.md, as far as a look at its files tells."""

    def test_the_looker_sees_what_is_outside(self):
        for rule, text in OUTSIDE:
            with self.subTest(rule, text=text):
                self.assertIn(rule, [fault[0] for fault in faults_of(text)])

    def test_the_package_holds_plain_files_alone(self):
        self.assertEqual(FOLDER.name, PACKAGE)
        self.assertIn("__init__.py", [path.name for path in sources()])
        for path in sources():
            self.assertTrue(path.is_file() and re.fullmatch("[a-z0-9_]+[.]py", path.name), path)
            self.assertFalse(path.name.startswith("test"), path)

    def test_each_file_keeps_to_the_rules(self):
        for path in sources():
            with self.subTest(path.name):
                self.assertEqual(faults_of(path.read_bytes().decode("ascii")), [])

    def test_names_are_drawn_from_the_files_that_define_them(self):
        for path in sources():
            for module, names in drawn_from(path):
                self.assertLessEqual(set(names), set(defined_in(FOLDER / f"{module}.py")), path.name)

    def test_no_name_is_both_a_method_and_a_value(self):
        methods, values = methods_and_values([path.read_text() for path in sources()])
        self.assertTrue({"pick", "settle"} <= methods and {"reached", "part"} <= values)
        self.assertEqual(methods & values, set())
        self.assertEqual((methods | values) & set(dir_of_values()) - {"__init__"}, set())

    def test_no_two_files_draw_from_one_another(self):
        left = {path.stem: [module for module, names in drawn_from(path)] for path in sources()}
        while left:
            free = [module for module in left if not set(left[module]) & set(left)]
            self.assertTrue(free, f"they draw from one another: {sorted(left)}")
            left = {module: left[module] for module in left if module not in free}


if __name__ == "__main__":
    unittest.main()
