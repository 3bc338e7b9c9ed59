import ast
import pathlib
import re
import unittest

from language import DUNDERS, METHODS, faults

PACKAGE = pathlib.Path(__file__).resolve().parent.parent / "blankform"
FORBIDDEN_STEMS = ("test", "tests", "testing", "site", "conftest", "sitecustomize", "usercustomize")
# What a value of an object may be called although Python's own values have a method of that name.
VALUES = set("count index title find get join lower upper split strip copy add".split())

# One row for each kind of fault, so that a check that sees nothing is seen itself.
FAULTY = [
    ("L2", "import os\n"),
    ("L2", "from random import choice\n"),
    ("L2", "from blankform import terms\n"),
    ("L2", "from .terms import part_at\n"),
    ("L2", "from blankform.terms import *\n"),
    ("L2", "def f():\n    from blankform.terms import part_at\n    return part_at\n"),
    ("L3", "print(1)\n"),
    ("L4", "def f(*xs):\n    return xs\n"),
    ("L4", "def f(x, *, y):\n    return x\n"),
    ("L5", "class A:\n    kind = 1\n"),
    ("L6", "def f(x):\n    assert x\n"),
    ("L6", "def f(x):\n    with x:\n        pass\n"),
    ("L6", "def f():\n    x = y = 1\n    return x + y\n"),
    ("L6", "def f(xs):\n    for x in xs:\n        pass\n    else:\n        pass\n"),
    ("L7", "def f(x):\n    return x / 2\n"),
    ("L7", "def f(xs):\n    return sum(x for x in xs)\n"),
    ("L7", "def f(xs):\n    return {x: 1 for x in xs}\n"),
    ("L7", "def f(xs):\n    return [*xs]\n"),
    ("L7", "def f():\n    return 1.5\n"),
    ("L8", "def f():\n    return open('x')\n"),
    ("L8", "def f(xs):\n    return iter(xs)\n"),
    ("L10", "def f():\n" + "    pass\n" * 40),
    ("L10", "x = '" + "a" * 120 + "'\n"),
    ("L12", "def _f():\n    pass\n"),
    ("L14", "x = '\u00e9'\n"),
    ("L14", "def f():\n\tpass\n"),
    ("L15", "x = 1\nx = 2\n"),
    ("L15", "def f(hash):\n    return hash\n"),
    ("L15", "from blankform.terms import same\ndef f(same):\n    return same\n"),
    ("L15", "class A:\n    pass\ndef f():\n    A = 1\n    return A\n"),
    ("L17", "# a type\n"),
    ("L19", "def f():\n    try:\n        return 1\n    except Exception:\n        return 2\n"),
    ("L20", "def f(x, y):\n    return x is y\n"),
    ("L21", "def f(x: int):\n    return x\n"),
    ("L23", "def f(xs):\n    ys = reversed(xs)\n    return ys\n"),
    ("L23", "def f(xs):\n    for x in xs:\n        xs.append(x)\n"),
    ("L23", "def f(xs):\n    for k, x in enumerate(xs):\n        xs[k] = x + 1\n"),
    ("L23", "def f(d):\n    for k, x in d.items():\n        d.pop(k)\n"),
    ("L24", "def f(xs):\n    ys = set(xs)\n    return ys\n"),
    ("L25", "def f(xs):\n    xs.sort()\n"),
    ("L25", "def f(x):\n    return x.encode()\n"),
    ("L27", "x = '%'\n"),
    ("L27", "def f(n):\n    return 2 ** n\n"),
]


def files():
    return sorted(PACKAGE.rglob("*.py"))


def module_name(path):
    parts = path.relative_to(PACKAGE.parent).with_suffix("").parts
    return ".".join(part for part in parts if part != "__init__")


def nodes():
    """Everything that stands in a file of the package."""
    return [node for path in files() for node in ast.walk(ast.parse(path.read_text(encoding="utf-8")))]


def methods():
    """The methods of every class of the package."""
    bodies = [node.body for node in nodes() if isinstance(node, ast.ClassDef)]
    return [part.name for body in bodies for part in body if isinstance(part, ast.FunctionDef)]


def kept_values():
    """The values that objects are given."""
    return [node.attr for node in nodes() if isinstance(node, ast.Attribute) and isinstance(node.ctx, ast.Store)]


def imports(path):
    tree = ast.parse(path.read_text(encoding="utf-8"))
    return [node for node in tree.body if isinstance(node, ast.ImportFrom)]


class Language(unittest.TestCase):
    def test_every_file_keeps_to_the_rules(self):
        self.assertTrue(files())
        for path in files():
            self.assertEqual(faults(path.read_text(encoding="utf-8"), "blankform", methods()), [], path.name)

    def test_the_names_of_methods_and_of_values_of_objects(self):
        self.assertTrue(methods() and kept_values())
        self.assertEqual(set(methods()) & set(kept_values()), set())
        python = set(name for kind in (str, int, list, dict, set, bytes, tuple) for name in dir(kind)) - set(DUNDERS)
        self.assertEqual(set(methods()) & python - METHODS - {"add", "discard"}, set())
        self.assertEqual(set(kept_values()) & python - VALUES, set())
        self.assertEqual(set(methods()) & {"items", "keys", "values", "args", "encode", "format"}, set())

    def test_the_check_sees_each_kind_of_fault(self):
        for rule, source in FAULTY:
            with self.subTest(rule=rule, source=source):
                self.assertIn(rule, [found for found, _ in faults(source, "blankform")])

    def test_only_plain_files_lie_in_the_package(self):
        for path in PACKAGE.rglob("*"):
            if "__pycache__" in path.parts:
                continue
            if path.is_dir():
                self.assertTrue((path / "__init__.py").exists(), path)
                continue
            self.assertEqual(path.suffix, ".py", path)
            self.assertTrue(re.fullmatch(r"__init__|[a-z][a-z0-9_]*", path.stem), path)
            self.assertNotIn(path.stem, FORBIDDEN_STEMS)
            self.assertFalse(path.stem.startswith("test_"), path)

    def test_each_name_is_drawn_from_the_file_that_defines_it(self):
        sources = {module_name(path): path.read_text(encoding="utf-8") for path in files()}
        for path in files():
            for node in imports(path):
                self.assertIn(node.module, sources)
                for name in node.names:
                    defined = rf"^(def {name.name}\(|class {name.name}\b|{name.name} = )"
                    self.assertRegex(sources[node.module], re.compile(defined, re.M))

    def test_no_two_files_draw_from_one_another(self):
        drawn = {module_name(path): [node.module for node in imports(path)] for path in files()}
        for start in drawn:
            reached = []
            waiting = list(drawn[start])
            while waiting:
                module = waiting.pop()
                if module not in reached:
                    reached.append(module)
                    waiting.extend(drawn[module])
            self.assertNotIn(start, reached)
