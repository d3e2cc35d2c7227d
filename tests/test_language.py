"""The files of the package keep the language, and have what the interface lists."""

import inspect
import re
import unittest
from pathlib import Path

from addedgrounds import contexts, errors, formulas
from tests.language import breaks_in

FOLDER = Path(__file__).resolve().parent.parent / "addedgrounds"
FUNCTIONS = {
    "is_name": "(value)", "is_formula": "(value)", "is_shape": "(value)", "formula_text": "(formula)",
    "read_formula": "(text)", "read_shape": "(text)", "atoms_of": "(formula)", "chained": "(formulas, goal)",
    "holes_of": "(shape, formula)", "unified": "(one, other)", "filled": "(formula, table)",
}
METHODS = {
    "__init__": "(self, rows=())", "of": "(*rows)", "read": "(text)", "rows": "(self)", "names": "(self)",
    "words": "(self)", "text": "(self)", "with_row": "(self, at, name, formula)", "without": "(self, *places)",
    "places_of": "(self, other)", "is_wider": "(self, other)", "__add__": "(self, other)",
    "__contains__": "(self, x)", "__len__": "(self)", "__eq__": "(self, other)", "__repr__": "(self)",
}
WRONG = [
    "import os\n", "from os import path\n", "x = [k for k in (1, 2)]\nx = 1.5\n", "def f(a):\n    return a / 2\n",
    "def f(a):\n    return any(k for k in a)\n", "def f(a):\n    return a is f\n", "def f(a):\n    return hash(a)\n",
    "def f(a):\n    return a.format()\n", "def f(len):\n    return len\n", "def _f():\n    return 1\n",
    "def f():\n    return \"100%\"\n", "def f(a):\n    try:\n        return a\n    except TypeError:\n        return 1\n",
    "class A:\n    def b(self):\n        self.b = 1\n", "class A:\n    def __add__(self, other):\n        self.c = 1\n",
    "# the type of it\n", "def f():\n" + "    f()\n" * 40, "x = 1\n" + "\n" * 400, "# " + "x" * 120 + "\n", "# \u00e9\n",
    "print(1)\n", "class A:\n    pass\n\n\ndef f(A):\n    return A\n",
]


class LanguageTest(unittest.TestCase):
    def test_files(self):
        names = [path.name for path in FOLDER.iterdir() if path.name != "__pycache__"]
        self.assertIn("__init__.py", names)
        for name in names:
            self.assertTrue(re.fullmatch(r"[a-z0-9_]+\.py", name), name)

    def test_no_breaks(self):
        texts = {"addedgrounds." + path.stem: path.read_text("utf-8") for path in sorted(FOLDER.glob("*.py"))}
        self.assertEqual(breaks_in(texts), [])

    def test_breaks_are_found(self):
        for text in WRONG:
            self.assertNotEqual(breaks_in({"addedgrounds.some": text}), [], text)
        circle = {"addedgrounds.a": "from addedgrounds.b import f\n\n\ndef g():\n    return f()\n",
                  "addedgrounds.b": "from addedgrounds.a import g\n\n\ndef f():\n    return g()\n"}
        self.assertNotEqual(breaks_in(circle), [])


class InterfaceTest(unittest.TestCase):
    def test_functions(self):
        for name, parameters in FUNCTIONS.items():
            function = getattr(formulas, name)
            self.assertEqual(str(inspect.signature(function)), parameters)
            self.assertEqual(function.__module__, "addedgrounds.formulas")

    def test_methods(self):
        for name, parameters in METHODS.items():
            self.assertIn(name, contexts.Context.__dict__)
            self.assertEqual(str(inspect.signature(getattr(contexts.Context, name))), parameters)
        self.assertEqual(contexts.Context.__module__, "addedgrounds.contexts")

    def test_errors(self):
        for name, error in vars(errors).items():
            if inspect.isclass(error):
                self.assertEqual(error.__module__, "addedgrounds.errors")


if __name__ == "__main__":
    unittest.main()
