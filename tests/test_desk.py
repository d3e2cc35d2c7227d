"""Point 21: desks and their answers."""

import unittest

from addedgrounds.contexts import Context
from addedgrounds.desk import Desk
from addedgrounds.formulas import read_formula
from addedgrounds.pages import read_page
from addedgrounds.scripts import Script
from addedgrounds.shelf import Shelf
from tests.claims import sized
from tests.samples import P

PAGE = """fact one
given h: p
goal p
exact h
done
fact two
goal (p > p)
recall one
exact one
done
fact three
given h: q
given k: (p & q)
goal (p | q)
right
exact [q]
done
"""


def desk_with(page=PAGE):
    return Desk(read_page(page))


class AnswersTest(unittest.TestCase):
    def check(self, desk, *pairs):
        """Lines and their answers, in order."""
        for line, answer in pairs:
            self.assertEqual(desk.say(line), answer, line)


class DeskTest(AnswersTest):
    def test_the_document(self):
        shelf = Shelf()
        shelf.apply(("fact", "one", Context.read("h: p"), read_formula("p"), Script.read("exact h")))
        desk = Desk(shelf)
        self.assertEqual(
            [desk("verdict one"), desk("begin one"), desk("do exact ="), desk("save"), desk("verdict one"),
             desk("states one")], ["breach 1", "open 1", "open 0", "done", "steady", "(p > p)"])

    def test_a_new_desk(self):
        shelf = Shelf()
        desk = Desk(shelf=shelf)
        self.assertIs(desk.shelf, shelf)
        self.assertEqual((desk.log(), len(desk), repr(desk)), ([], 0, "Desk(0 lines)"))

    def test_log(self):
        desk = desk_with()
        self.check(desk, ("names", "one two three"), ("x", "unknown"), ("", "unknown"))
        self.assertEqual(desk("drop none"), "error UnknownName")
        self.assertEqual(desk.say(line="names"), desk(line="names"))
        log = [("names", "one two three"), ("x", "unknown"), ("", "unknown"), ("drop none", "error UnknownName"),
               ("names", "one two three"), ("names", "one two three")]
        self.assertEqual((desk.log(), len(desk), repr(desk)), (log, 6, "Desk(6 lines)"))
        desk.log().clear()
        self.assertEqual(desk.log(), log)

    def test_lines_about_the_shelf(self):
        desk = desk_with()
        self.check(
            desk, ("names", "one two three"), ("verdict one", "breach 1"), ("verdict two", "steady"),
            ("verdict three", "steady"), ("sound one", "no"), ("sound two", "no"), ("sound three", "yes"),
            ("rests one", "none"), ("rests two", "one"), ("states two", "(p > p)"),
            ("states three", "(q > ((p & q) > (p | q)))"))
        self.assertEqual((desk.shelf.kept(), desk.shelf.computed), (["one", "three", "two"], 3))

    def test_names_with_spaces_between(self):
        desk = desk_with()
        desk.shelf.apply(("script", "three", Script.read("recall two\nrecall one")))
        self.check(desk, ("rests three", "one two"), ("drop three", "done"), ("names", "one two"), ("drop two", "done"),
                   ("drop one", "done"), ("names", "none"))

    def test_steps(self):
        desk = desk_with()
        self.check(
            desk, ("undo", "error NothingLeft"), ("redo", "error NothingLeft"), ("drop one", "error NameInUse"),
            ("drop two", "done"), ("names", "one three"), ("undo", "done"), ("names", "one two three"), ("redo", "done"),
            ("drop one", "done"), ("names", "three"), ("redo", "error NothingLeft"))
        self.assertEqual(desk.shelf.history(), (2, 0))

    def test_errors(self):
        desk = desk_with()
        for word in ("drop", "verdict", "sound", "rests", "states", "begin"):
            for name in ("none", "One", "one,", "=", "do", "1", "abcdefgh", "one\\", "(p"):
                self.check(desk, (f"{word} {name}", "error UnknownName"))
        desk.shelf.apply(("fact", "large", Context(), sized(201), Script.read("exact #1")))
        many = Script.read("repeat 3\nrepeat 3\nopen #1 x y\nend\nend\nall\nexact =\nend")
        desk.shelf.apply(("fact", "many", Context(), P, many))
        self.check(desk, ("verdict large", "error TooLarge"), ("sound large", "error TooLarge"),
                   ("verdict many", "error TooMany"), ("sound many", "error TooMany"))
        self.assertEqual(desk.shelf.kept(), [])

    def test_deep_statements(self):
        context = Context([("h", P)] * 8)
        shelf = Shelf()
        shelf.apply(("fact", "a", context, sized(199), Script()))
        self.assertTrue(Desk(shelf).say("states a").startswith("(p > (p > (p > (p > (p > (p > (p > (p > ((("))

    def test_other_lines(self):
        desk = desk_with()
        lines = ["", " ", "  ", "Names", "names ", " names", "names x", "names  ", "undo x", "redo ", "undo one", "drop",
                 "drop ", "drop  one", "drop one ", " drop one", "drop one two", "verdict", "verdict ", "verdict one two",
                 "verdict  one", "sound", "rests", "rests ", "states", "states one two", "begin", "begin ", "begin one two",
                 "begin  one", "back x", "save x", "goals x", "goals ", "done", "open", "none", "unknown", "error", "do",
                 "do ", "dodo one", "doexact =", "Do exact =", "log", "say names", "exact =", "back ", "fact one"]
        for line in lines:
            self.check(desk, (line, "unknown"))
        self.check(desk, ("begin one", "open 1"))
        for line in lines:
            self.check(desk, (line, "unknown"))
        self.assertEqual(desk.shelf.history(), (0, 0))
        self.assertEqual(len(desk), 2 * len(lines) + 1)


class SessionTest(AnswersTest):
    def test_lines_without_a_session(self):
        desk = desk_with()
        for line in ("do exact =", "do x", "do  ", "do   x", "back", "save", "goals"):
            self.check(desk, (line, "unknown"))
        self.check(desk, ("begin none", "error UnknownName"), ("goals", "unknown"))

    def test_a_session(self):
        desk = desk_with()
        self.check(
            desk, ("begin three", "open 1"), ("goals", "open 1"), ("back", "error NothingLeft"),
            ("do open k x y", "open 1"), ("do have z p", "open 2"), ("goals", "open 2"), ("back", "open 1"),
            ("do left", "open 1"), ("do exact x", "open 0"), ("goals", "open 0"), ("do split", "error Refused"),
            ("save", "done"), ("goals", "open 0"), ("back", "open 1"))
        self.assertEqual(desk.shelf.claim_of("three").script, Script.read("open k x y\nleft\nexact x"))
        self.check(desk, ("do exact [p]", "open 0"), ("save", "done"))
        self.assertEqual(desk.shelf.claim_of("three").script, Script.read("open k x y\nleft\nexact [p]"))
        self.check(desk, ("verdict three", "breach 1"), ("undo", "done"), ("undo", "done"), ("verdict three", "steady"))

    def test_refused_commands_change_nothing(self):
        desk = desk_with()
        self.check(desk, ("begin one", "open 1"), ("do split", "error Refused"), ("do exact k", "error Refused"),
                   ("back", "error NothingLeft"), ("do exact h", "open 0"), ("back", "open 1"))

    def test_commands_that_are_none(self):
        desk = desk_with()
        self.check(desk, ("begin one", "open 1"))
        for command in (" ", "  ", " exact =", "exact  =", "exact = ", "x", "exact", "try", "first", "all", "repeat 2",
                        "end", "else", "do exact =", "exact = exact =", "recall One", "save", "names"):
            self.check(desk, ("do " + command, "error InvalidText"))
        self.check(desk, ("goals", "open 1"), ("back", "error NothingLeft"), ("do", "unknown"), ("do ", "unknown"))

    def test_facts_of_a_session(self):
        desk = desk_with()
        self.check(
            desk, ("begin two", "open 1"), ("do recall two", "error Refused"), ("do recall none", "error Refused"),
            ("do recall three", "open 1"), ("do recall one", "open 1"), ("do exact one", "open 0"))
        # The facts stay as they were when the session began.
        desk.shelf.apply(("script", "two", Script()), ("fact", "one", Context(), P, Script()), ("drop", "three"))
        self.check(desk, ("back", "open 1"), ("do exact one", "open 0"), ("save", "error UnknownName"))
        self.check(desk, ("begin two", "open 1"), ("do recall one", "open 1"), ("do exact one", "error Refused"))

    def test_facts_that_recall_the_entry(self):
        desk = desk_with()
        self.check(desk, ("begin one", "open 1"), ("do recall two", "open 1"), ("do use two h x", "open 1"),
                   ("do exact x", "open 0"), ("save", "error Circular"), ("goals", "open 0"))
        self.assertEqual(desk.shelf.claim_of("one").script, Script.read("exact h"))

    def test_entries_that_are_gone(self):
        desk = desk_with()
        self.check(desk, ("begin three", "open 1"), ("do left", "open 1"), ("drop three", "done"),
                   ("save", "error UnknownName"), ("goals", "open 1"), ("undo", "done"), ("save", "done"))
        self.assertEqual(desk.shelf.claim_of("three").script, Script.read("left"))

    def test_another_session(self):
        desk = desk_with()
        self.check(desk, ("begin three", "open 1"), ("do left", "open 1"), ("begin none", "error UnknownName"),
                   ("back", "open 1"), ("do right", "open 1"), ("begin one", "open 1"), ("back", "error NothingLeft"),
                   ("save", "done"), ("begin three", "open 1"), ("back", "error NothingLeft"))
        self.assertEqual(desk.shelf.claim_of("one").script, Script())
        self.assertEqual(desk.shelf.claim_of("three").script, Script.read("right\nexact [q]"))

    def test_many_commands(self):
        desk = desk_with()
        self.check(desk, ("begin one", "open 1"))
        for _ in range(16):
            self.check(desk, ("do move h", "open 1"))
        self.check(desk, ("save", "done"), ("do exact h", "open 0"), ("save", "error TooMany"), ("drop two", "done"),
                   ("drop one", "done"), ("save", "error TooMany"), ("back", "open 1"), ("save", "error UnknownName"))
        self.assertEqual(len(desk.shelf), 1)

    def test_two_desks_at_one_shelf(self):
        shelf = read_page(PAGE)
        one, other = Desk(shelf), Desk(shelf)
        self.check(one, ("begin one", "open 1"))
        self.check(other, ("goals", "unknown"), ("begin three", "open 1"), ("do left", "open 1"), ("save", "done"))
        self.check(one, ("do exact =", "open 0"), ("save", "done"), ("undo", "done"), ("undo", "done"))
        self.check(other, ("undo", "error NothingLeft"), ("redo", "done"), ("goals", "open 1"))
        self.assertEqual((len(one), len(other)), (5, 7))
        self.assertEqual(shelf.claim_of("three").script, Script.read("left"))
        self.assertEqual(shelf.claim_of("one").script, Script.read("exact h"))

    def test_equal_lines(self):
        one, other = desk_with(), desk_with()
        for line in ("begin three", "do left", "verdict three", "save", "verdict three", "sound two", "undo", "names"):
            self.assertEqual(one(line), other.say(line))
        self.assertEqual(one.log(), other.log())


if __name__ == "__main__":
    unittest.main()
