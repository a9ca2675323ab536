"""Tests that the package keeps to the rules of ../shared/LANGUAGE.md."""

import ast
import pathlib
import unittest

from language import faults_of

PACKAGE = pathlib.Path(__file__).parent.parent / "trireme"

# What the document's interface lists, by files.
INTERFACE = {
    "errors.py": ["TriremeError", "LimitError", "ParseError"],
    "texts.py": ["parse", "print_program"],
    "plain.py": ["run"],
    "machines.py": ["is_machine", "run_code"],
    "needs.py": ["needs", "loop_needs"],
    "judge.py": ["is_schedule", "is_pipeline", "is_reason", "is_loop_reason"],
    "scheduling.py": ["schedule"],
    "pipelining.py": ["pipeline"],
    "compiling.py": ["blocks", "assemble", "compile_program", "cycles"],
}


def package():
    return {path.name: path.read_text("utf-8") for path in sorted(PACKAGE.glob("*.py"))}


class PackageTest(unittest.TestCase):
    def test_the_folder_contains_files_alone(self):
        others = [
            path.name for path in PACKAGE.iterdir()
            if path.suffix != ".py" and path.name != "__pycache__"
        ]
        self.assertEqual(others, [])
        self.assertTrue((PACKAGE / "__init__.py").is_file())
        self.assertLessEqual(len(package()), 100)

    def test_no_rule_is_broken(self):
        self.assertEqual(faults_of(package()), [])

    def test_the_interface_is_defined_in_its_files(self):
        for name, wanted in INTERFACE.items():
            tree = ast.parse(package()[name])
            defined = [
                node.name for node in tree.body if isinstance(node, (ast.FunctionDef, ast.ClassDef))
            ]
            for item in wanted:
                self.assertIn(item, defined)


class CheckerTest(unittest.TestCase):
    """The checker finds faults, and none where there are none."""

    def rules(self, text, name="some.py", **others):
        files = {name: text, **{other + ".py": more for other, more in others.items()}}
        return {rule for _, rule, _ in faults_of(files)}

    def test_right_code(self):
        text = (
            '"""Text."""\n\nfrom trireme.other import LIMIT\n\nTABLE = {"a": (1, -2)}\n\n\n'
            'class Box:\n    """Text."""\n\n    def __init__(self, rows):\n        self.rows = list(rows)\n\n'
            "    def total(self, by):\n        return sum([by * row for row in self.rows])\n\n\n"
            "def told(box, n):\n    for k in range(LIMIT):\n        n += k % 3\n"
            '    if n not in TABLE and n is not None:\n        raise ValueError(f"no {n}")\n'
            "    rows = sorted(set(box.rows))\n    rows.append(max(rows, default=0))\n"
            "    return box.total(n), [a for a, b in zip(rows, rows[1:])]\n"
        )
        self.assertEqual(self.rules(text, other="LIMIT = 3\n"), set())

    def test_wrong_code(self):
        for rule, row in [
            ("L7", "return a / b"), ("L7", "return 1.5"), ("L7", "return f(*a)"), ("L7", "return a ** b"),
            ("L6", "return {1, 2}"), ("L6", "return sum(x for x in a)"), ("L6", "global a"),
            ("L6", "try:\n        return a\n    finally:\n        pass"), ("L6", "yield a"),
            ("L6", "assert a"), ("L6", "with a:\n        pass"), ("L6", "f = lambda: a"),
            ("L8", "return print(a)"), ("L8", "return sys"), ("L15", "min = a"), ("L15", "list = a"),
            ("L12", "__x = a"), ("L12", "_ = a\n    return _"), ("L17", "open = a"), ("L17", "type = a"),
            ("L17", "return a.register"), ("L20", "return a is b"), ("L20", "return a is 0"),
            ("L22", "return sorted(a, key=len)"), ("L22", "b = len"), ("L22", "return int(a, base=2)"),
            ("L23", "b = range(a)"), ("L23", "return zip(a, b)"), ("L23", "return a.items()"),
            ("L23", "for x in a:\n        a.append(x)"), ("L23", "for x in a[b]:\n        a[b] = x"),
            ("L23", "for x, y in zip(a, b):\n        b.pop()"), ("L24", "b = set(a)"),
            ("L24", "for x in set(a):\n        pass"), ("L24", "return tuple(set(a))"),
            ("L25", "return a.encode()"), ("L25", "return a.sort()"), ("L25", "return a.split(sep=b)"),
            ("L25", "return a.told"), ("L27", 'return "%"'), ("L27", 'return "__a__"'),
            ("L27", 'return "\\x00"'), ("L27", "return r'a'"), ("L10", "return a" + " " * 120 + "# b"),
            ("L10", "a = b\n" + "    a = b\n" * 40), ("L14", "return 'ä'"), ("L14", "\treturn a"),
            ("L19", "raise a"), ("L19", "raise f(a)"), ("L19", "raise ValueError(a) from b"),
            ("L2", "from trireme.plain import run"), ("L4", "def g(x):\n        return x"),
        ]:
            with self.subTest(row=row):
                self.assertIn(rule, self.rules(f"def f(a, b):\n    {row}\n"))

    def test_wrong_files(self):
        for rule, text in [
            ("L6", "import os\n"), ("L2", "from os import path\n"), ("L2", "from . import x\n"),
            ("L2", "X = 1\nfrom trireme.other import LIMIT\n"), ("L2", "from trireme.gone import x\n"),
            ("L2", "from trireme.other import LIMIT as x\n"), ("L16", "from trireme.other import gone\n"),
            ("L16", "from trireme.some import f\n\n\ndef g():\n    return 1\n"),
            ("L3", "X = Y = 1\n"), ("L3", "X, Y = 1, 2\n"), ("L3", "X = [[1]]\n"), ("L3", "X = len('a')\n"),
            ("L3", "for x in []:\n    pass\n"), ("L15", "X = 1\nX = 2\n"), ("L15", "def min(a):\n    return a\n"),
            ("L15", "from trireme.other import LIMIT\n\n\ndef f(LIMIT):\n    return LIMIT\n"),
            ("L4", "def f(*a):\n    return a\n"), ("L4", "def f(*, a):\n    return a\n"),
            ("L4", "@f\ndef g():\n    return 1\n"), ("L4", "def f(a=[]):\n    return a\n"),
            ("L5", "class A:\n    X = 1\n"), ("L5", "class A:\n    def __hash__(self):\n        return 1\n"),
            ("L5", "class A(B, C):\n    pass\n"), ("L21", "def f(a: int):\n    return a\n"),
            ("L28", "class A:\n    def __init__(self):\n        return None\n"),
            ("L18", "class A:\n    def f(self):\n        self.f = 1\n"),
            ("L26", "class A:\n    def f(self):\n        self.pop = 1\n"),
            ("L26", "class A:\n    def encode(self):\n        return 1\n"), ("L10", "# a\n" * 400),
        ]:
            with self.subTest(text=text):
                self.assertIn(rule, self.rules(text, other="LIMIT = 3\n"))

    def test_files_that_import_from_each_other(self):
        text = "from trireme.{} import f\n\n\ndef {}():\n    return f()\n"
        files = {"other": text.format("third", "f"), "third": text.format("some", "f")}
        self.assertIn("L16", self.rules("from trireme.other import g\n\n\ndef f():\n    return g()\n", **files))

    def test_names_of_files(self):
        for name in ("json.py", "queue.py", "Upper.py", "test_it.py", "law_1.py", "len.py", "a-b.py"):
            self.assertIn("L14", self.rules("X = 1\n", name=name))


if __name__ == "__main__":
    unittest.main()
