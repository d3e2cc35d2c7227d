"""The files of the package keep the language, and have what the interface lists."""

import inspect
import re
import unittest
from pathlib import Path

from addedgrounds import (
    cases, contexts, desk, errors, formulas, needs, pages, parting, scripts, sessions, shelf, steady, terms)
from tests.language import breaks_in

FOLDER = Path(__file__).resolve().parent.parent / "addedgrounds"
FUNCTIONS = {
    formulas: {
        "is_name": "(value)", "is_formula": "(value)", "is_shape": "(value)", "formula_text": "(formula)",
        "read_formula": "(text)", "read_shape": "(text)", "atoms_of": "(formula)", "chained": "(formulas, goal)",
        "holes_of": "(shape, formula)", "unified": "(one, other)", "filled": "(formula, table)"},
    terms: {"is_derivation": "(term, context, goal, *, facts=None)", "statement": "(context, goal)"},
    sessions: {"run": "(script, context, goal, *, facts=None)"},
    cases: {
        "first_case": "(context)", "asked": "(script, case, goal, facts)", "refined": "(case, question)",
        "added_in": "(case)", "fits": "(case, context, places)"},
    steady: {"decide": "(claim, *, limit=4000)"},
    parting: {"same_end": "(pair, context)", "compare": "(pair, *, limit=4000)"},
    needs: {
        "least_grounds": "(claim, *, limit=4000)", "spare_commands": "(claim, *, limit=4000)",
        "steady_orders": "(claim, *, limit=4000)"},
    pages: {"write_page": "(shelf)", "read_page": "(text)"},
}
METHODS = {
    contexts.Context: {
        "__init__": "(self, rows=())", "of": "(*rows)", "read": "(text)", "rows": "(self)", "names": "(self)",
        "words": "(self)", "text": "(self)", "with_row": "(self, at, name, formula)", "without": "(self, *places)",
        "places_of": "(self, other)", "is_wider": "(self, other)", "__add__": "(self, other)",
        "__contains__": "(self, x)", "__len__": "(self)", "__eq__": "(self, other)", "__repr__": "(self)"},
    scripts.Script: {
        "__init__": "(self, commands=())", "read": "(text)", "commands": "(self)", "text": "(self)", "walk": "(self)",
        "words": "(self)", "recalled": "(self)", "without": "(self, at)", "__add__": "(self, other)",
        "__len__": "(self)", "__eq__": "(self, other)", "__repr__": "(self)"},
    sessions.Outcome: {
        "told": "(self)", "__eq__": "(self, other)", "__bool__": "(self)", "__repr__": "(self)"},
    sessions.Shown: {"told": "(self)"},
    sessions.Open: {"told": "(self)", "goals": "(self)"},
    sessions.Stopped: {"told": "(self)"},
    sessions.Session: {
        "__init__": "(self, context, goal, *, facts=None)", "do": "(self, *commands)", "tell": "(self, line)",
        "undo": "(self)", "redo": "(self)", "history": "(self)", "commands": "(self)", "goals": "(self)",
        "derivation": "(self)", "twin": "(self)", "__len__": "(self)", "__repr__": "(self)"},
    steady.Claim: {
        "__init__": "(self, script, context, goal, *, facts=None)", "facts": "(self)", "run_on": "(self, context)",
        "shown_everywhere": "(self, *, limit=4000)", "__eq__": "(self, other)", "__repr__": "(self)"},
    steady.Verdict: {"told": "(self)", "holds": "(self)", "__bool__": "(self)", "__repr__": "(self)"},
    steady.Steady: {"__init__": "(self, claim, nodes)", "nodes": "(self)", "told": "(self)", "holds": "(self)"},
    steady.Breach: {
        "__init__": "(self, claim, wider, places)", "places": "(self)", "outcome": "(self)", "told": "(self)",
        "holds": "(self)"},
    parting.Pair: {
        "__init__": "(self, one, other, context, goal, *, facts=None)", "__eq__": "(self, other)", "__repr__": "(self)"},
    parting.Alike: {"__init__": "(self, claim, nodes)", "nodes": "(self)", "told": "(self)", "holds": "(self)"},
    parting.Parted: {
        "__init__": "(self, claim, wider, places)", "places": "(self)", "told": "(self)", "holds": "(self)"},
    shelf.Shelf: {
        "__init__": "(self, *, limit=12)", "set_limit": "(self, value)", "apply": "(self, *deeds)", "undo": "(self)",
        "redo": "(self)", "history": "(self)", "names": "(self)", "claim_of": "(self, name)",
        "statement": "(self, name)", "users": "(self, name)", "rests": "(self, name)", "verdict": "(self, name)",
        "is_sound": "(self, name)", "kept": "(self)", "twin": "(self)", "__contains__": "(self, x)",
        "__len__": "(self)", "__eq__": "(self, other)", "__repr__": "(self)"},
    desk.Desk: {
        "__init__": "(self, shelf)", "say": "(self, line)", "__call__": "(self, line)", "log": "(self)",
        "__len__": "(self)", "__repr__": "(self)"},
}
PROPERTIES = {
    sessions.Shown: ("term",), sessions.Stopped: ("place", "cause"),
    sessions.Session: ("context", "goal", "many", "busy"),
    steady.Claim: ("script", "context", "goal"), steady.Verdict: ("claim",), steady.Breach: ("wider", "added"),
    parting.Pair: ("context",), parting.Alike: ("claim",), parting.Parted: ("claim", "wider", "added"),
    shelf.Shelf: ("limit", "busy", "computed"), desk.Desk: ("shelf",),
}
WRONG = [
    "import os\n", "from os import path\n", "x = [k for k in (1, 2)]\nx = 1.5\n", "def f(a):\n    return a / 2\n",
    "def f(a):\n    return any(k for k in a)\n", "def f(a):\n    return a is f\n", "def f(a):\n    return hash(a)\n",
    "def f(a):\n    return a.format()\n", "def f(len):\n    return len\n", "def _f():\n    return 1\n",
    "def f():\n    return \"100%\"\n", "def f(a):\n    try:\n        return a\n    except TypeError:\n        return 1\n",
    "class A:\n    def b(self):\n        self.b = 1\n", "class A:\n    def __add__(self, other):\n        self.c = 1\n",
    "# the type of it\n", "def f():\n" + "    f()\n" * 40, "x = 1\n" + "\n" * 400, "# " + "x" * 120 + "\n", "# \u00e9\n",
    "def f(a):\n    b = zip(a, a)\n    return list(b)\n", "def f(a):\n    b = yield a\n    return\n",
    "class A:\n    @property\n    def b(self):\n        self.c = 1\n        return 1\n", "x = {1: 2}\n\n\ndef f():\n    return x\n",
    "class A:\n    @property\n    def b(self):\n        return 1\n\n\nclass B:\n    def b(self):\n        return 1\n",
    "print(1)\n", "class A:\n    pass\n\n\ndef f(A):\n    return A\n",
]


class LanguageTest(unittest.TestCase):
    def test_files(self):
        names = [path.name for path in FOLDER.iterdir() if path.name != "__pycache__"]
        self.assertIn("__init__.py", names)
        for name in names:
            self.assertTrue(re.fullmatch(r"[a-z0-9_]+\.py", name), name)

    def test_no_breaks(self):
        texts = {"addedgrounds." + path.stem: path.read_text("utf-8") for path in sorted(FOLDER.glob("*.py"))}
        self.assertEqual(breaks_in(texts), [])

    def test_breaks_are_found(self):
        for text in WRONG:
            self.assertNotEqual(breaks_in({"addedgrounds.some": text}), [], text)
        circle = {"addedgrounds.a": "from addedgrounds.b import f\n\n\ndef g():\n    return f()\n",
                  "addedgrounds.b": "from addedgrounds.a import g\n\n\ndef f():\n    return g()\n"}
        self.assertNotEqual(breaks_in(circle), [])


class InterfaceTest(unittest.TestCase):
    def test_functions(self):
        for module, functions in FUNCTIONS.items():
            for name, parameters in functions.items():
                function = getattr(module, name)
                self.assertEqual(str(inspect.signature(function)), parameters)
                self.assertEqual(function.__module__, module.__name__)

    def test_methods(self):
        for found, methods in METHODS.items():
            for name, parameters in methods.items():
                self.assertIn(name, found.__dict__)
                self.assertEqual(str(inspect.signature(getattr(found, name))), parameters)

    def test_properties(self):
        for found, names in PROPERTIES.items():
            for name in names:
                self.assertIsInstance(found.__dict__[name], property)

    def test_classes(self):
        for module, names in (
                (contexts, ("Context",)), (scripts, ("Script",)), (shelf, ("Shelf",)), (desk, ("Desk",)),
                (sessions, ("Outcome", "Shown", "Open", "Stopped", "Session")),
                (steady, ("Claim", "Verdict", "Steady", "Breach")), (parting, ("Pair", "Alike", "Parted"))):
            for name in names:
                self.assertEqual(getattr(module, name).__module__, module.__name__)
        for kind in (sessions.Shown, sessions.Open, sessions.Stopped):
            self.assertTrue(issubclass(kind, sessions.Outcome))
        for kind in (steady.Steady, steady.Breach, parting.Alike, parting.Parted):
            self.assertTrue(issubclass(kind, steady.Verdict))
        self.assertEqual([contexts.Context.MOST, scripts.Script.MOST, shelf.Shelf.MOST], [40, 16, 20])

    def test_errors(self):
        for name, error in vars(errors).items():
            if inspect.isclass(error):
                self.assertEqual(error.__module__, "addedgrounds.errors")


if __name__ == "__main__":
    unittest.main()
