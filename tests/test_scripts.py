"""Points 6, 7 and 9: the forms and the texts of references, commands and scripts."""

import inspect
import unittest
from random import Random

from addedgrounds.contexts import Context
from addedgrounds.errors import InvalidCommand, InvalidText, TooMany
from addedgrounds.scripts import Script
from tests import model
from tests.samples import FALSE, OTHER_VALUES, P, Q, atom, deep_list, deep_tuple, full, hole, nested, part

FORMULA = ("then", P, ("and", Q, FALSE))
SHAPE = ("then", hole("a"), ("or", hole("b"), P))
REFERENCES = {
    "h": ("name", "h"), "abcdef": ("name", "abcdef"), "goal": ("name", "goal"), "exact": ("name", "exact"),
    "#1": ("newest", 1), "#2": ("newest", 2), "#3": ("newest", 3), "#4": ("newest", 4),
    "@1": ("oldest", 1), "@2": ("oldest", 2), "@3": ("oldest", 3), "@4": ("oldest", 4),
    "[?a]": ("shape", hole("a")), "[p]": ("shape", P), "[0]": ("shape", FALSE),
    "[(?a > (?b | p))]": ("shape", SHAPE), "h:[(?a > (?b | p))]": ("both", "h", SHAPE), "end:[0]": ("both", "end", FALSE),
    "=": ("goal",), ">": ("toward",),
}
NOT_REFERENCES = [value for value in OTHER_VALUES if value not in (("goal",), ("toward",))] + [
    P, FORMULA, SHAPE, "h", "=", ("name",), ("name", ""), ("name", "H"), ("name", "abcdefg"), ("name", 1), ("name", "h", "h"),
    ("name", ["h"]), ("newest",), ("newest", 0), ("newest", 5), ("newest", -1), ("newest", True), ("newest", "1"),
    ("newest", None), ("newest", 1, 1), ("oldest", 0), ("oldest", 5), ("oldest", True), ("oldest", (1,)), ("oldest",),
    ("shape",), ("shape", "p"), ("shape", nested(6)), ("shape", part(0)), ("shape", ["atom", "p"]), ("shape", P, P),
    ("both", "h"), ("both", P, "h"), ("both", "h", "p"), ("both", "H", P), ("both", "h", nested(6)), ("both", "h", P, P),
    ("goal", "h"), ("toward", P), ["goal"], ["name", "h"], ("="), ("Goal",), ("first",), (None,), (("goal",),)]
SIMPLE = {
    "intro h": ("intro", "h"), "exact =": ("exact", ("goal",)), "apply h:[(?a & ?a)]": (
        "apply", ("both", "h", ("and", hole("a"), hole("a")))),
    "open [(?a & p)] h k": ("open", ("shape", ("and", hole("a"), P)), "h", "k"),
    "use > [(p | q)] end": ("use", ("toward",), ("shape", ("or", P, Q)), "end"),
    "use h k x": ("use", ("name", "h"), ("name", "k"), "x"), "drop #4": ("drop", ("newest", 4)),
    "move @1": ("move", ("oldest", 1)), "split": ("split",), "left": ("left",), "right": ("right",),
    "absurd": ("absurd",), "have h p": ("have", "h", P), "have x (p > (q & 0))": ("have", "x", FORMULA),
    "recall fact": ("recall", "fact"), "intro intro": ("intro", "intro"),
}
SPLIT = ("split",)
BLOCKS = {
    "first\nelse\nend": ("first", (), ()), "try\nend": ("try", ()), "repeat 1\nend": ("repeat", 1, ()),
    "all\nend": ("all", ()), "repeat 3\nsplit\nsplit\nend": ("repeat", 3, (SPLIT, SPLIT)),
    "first\nsplit\nelse\nleft\nright\nend": ("first", (SPLIT,), (("left",), ("right",))),
    "first\nelse\nsplit\nend": ("first", (), (SPLIT,)), "first\nsplit\nelse\nend": ("first", (SPLIT,), ()),
    "try\nrepeat 2\nintro h\nend\nend": ("try", (("repeat", 2, (("intro", "h"),)),)),
    "all\nfirst\nelse\ntry\nend\nend\nend": ("all", (("first", (), (("try", ()),)),)),
}
NOT_HEADS = [value for value in OTHER_VALUES if value not in (SPLIT,)] + [
    "split", ["split"], ("split", "h"), ("split", ()), ("intro",), ("intro", "H"), ("intro", 1), ("intro", "h", "k"),
    ("intro", ("name", "h")), ("intro", ["h"]), ("exact",), ("exact", "h"), ("exact", ["goal"]), ("exact", ("goal",), "h"),
    ("open", ("goal",)), ("open", ("goal",), "h"), ("open", ("goal",), "h", "K"), ("open", ("goal",), "H", "k"),
    ("open", "h", "h", "k"), ("open", ("goal",), "h", "k", "m"), ("use", ("goal",), "h", "k"),
    ("use", ("goal",), ("goal",)), ("use", "h", ("goal",), "h"), ("use", ("goal",), ("goal",), 1),
    ("have", "h"), ("have", "h", "p"), ("have", P, "h"), ("have", "h", hole("a")), ("have", "h", nested(11)),
    ("have", "h", part(0)), ("have", "H", P), ("have", "h", P, P), ("recall",), ("recall", "H"), ("recall", ("fact", "h")),
    ("recall", "h", "k"), ("left", P), ("absurd", FALSE), ("right", ()), ("other",), ("Split",), (("split",),), (None,),
    ("else",), ("end",), ("drop",), ("move", "h"), ("move", ("goal",), ("goal",)),
    ("first",), ("first", ()), ("first", (), (), ()), ("first", (), "block"), ("first", None, ()), ("first", {}, ()),
    ("try",), ("try", "split"), ("try", None), ("try", 1), ("try", {}), ("try", (), ()), ("all",), ("all", "split"),
    ("all", (), ()), ("repeat",), ("repeat", 1), ("repeat", ()), ("repeat", (), 1), ("repeat", 0, ()), ("repeat", 4, ()),
    ("repeat", True, ()), ("repeat", "1", ()), ("repeat", 1, (), ()), ("repeat", 1, "split"), ("repeat", -1, ()),
    ["try", ()], ["first", (), ()]]


def many_commands(many, kind=tuple):
    """A command with a block that counts as so many."""
    return ("try", kind([SPLIT] * (many - 1)))


class FormsTest(unittest.TestCase):
    def check(self, commands, path):
        with self.assertRaises(InvalidCommand) as caught:
            Script(commands)
        self.assertEqual(caught.exception.path, path)
        self.assertIsInstance(caught.exception.path, tuple)

    def test_simple_commands(self):
        for command in SIMPLE.values():
            script = Script([command])
            self.assertEqual(script.commands(), [command])
            self.assertEqual(len(script), 1)

    def test_references(self):
        for reference in REFERENCES.values():
            for command in (("exact", reference), ("open", reference, "x", "y"), ("use", reference, reference, "x")):
                self.assertEqual(Script([command]).commands(), [command])

    def test_wrong_references(self):
        for value in NOT_REFERENCES:
            for command in (("exact", value), ("apply", value), ("drop", value), ("move", value), ("open", value, "x", "y"),
                            ("use", value, ("goal",), "x"), ("use", ("goal",), value, "x")):
                self.check([command], (0,))

    def test_wrong_commands(self):
        for value in NOT_HEADS:
            self.check([value], (0,))
            self.check((SPLIT, value), (1,))
            self.check([("try", [SPLIT, SPLIT, value])], (0, 0, 2))
            self.check([SPLIT, ("first", [], [("all", (value,))])], (1, 1, 0, 0, 0))

    def test_formulas_and_shapes_of_each_depth(self):
        for depth in range(1, 14):
            command = ("have", "x", nested(depth, kind="and"))
            if depth <= 10:
                self.assertEqual(Script([command]).commands(), [command])
            else:
                self.check([command], (0,))
            command = ("exact", ("shape", nested(depth, hole("z"), left=False)))
            if depth <= 5:
                self.assertEqual(Script([command]).commands(), [command])
            else:
                self.check([command], (0,))
        self.check([("have", "x", full(12))], (0,))

    def test_first_wrong_command(self):
        wrong = ("intro", "H")
        self.check([wrong, wrong], (0,))
        self.check([SPLIT, ("try", (wrong,)), wrong], (1, 0, 0))
        self.check([("first", (SPLIT, wrong), (wrong,))], (0, 0, 1))
        self.check([("first", (SPLIT,), (SPLIT, wrong))], (0, 1, 1))
        self.check([("repeat", 4, (wrong,)), wrong], (0,))
        self.check([("first", (wrong,), "else")], (0,))
        self.check([("try", (("repeat", 0, (wrong,)),))], (0, 0, 0))

    def test_depth(self):
        for inner in ((), (SPLIT,), [SPLIT, SPLIT]):
            script = Script([("try", [("all", [("try", ())])])])
            self.assertEqual(len(script), 3)
            self.check([("try", [("all", [("try", [SPLIT])])])], (0, 0, 0, 0, 0, 0, 0))
            self.check([SPLIT, ("first", [], [SPLIT, ("repeat", 1, [SPLIT, ("all", [("try", inner)])])])],
                       (1, 1, 1, 0, 1, 0, 0))
        for value in OTHER_VALUES:
            self.check([("try", [("all", [("try", [value])])])], (0, 0, 0, 0, 0, 0, 0))
        self.check([("try", [("all", [("try", "block")])])], (0, 0, 0, 0, 0))
        for depth in range(4, 9):
            command = SPLIT
            for _ in range(depth - 1):
                command = ("try", (command,))
            self.check([command], (0,) * 7)

    def test_any_values(self):
        for value in OTHER_VALUES + [deep_list(11), deep_tuple(11), Context(), Script()]:
            self.check([value], (0,))
            self.check([SPLIT] * 5 + [value], (5,))

    def test_too_many(self):
        self.assertEqual(Script.MOST, 16)
        for commands in ([SPLIT] * 16, [many_commands(16)], [SPLIT, many_commands(15, list)],
                         [("first", [SPLIT] * 7, [("try", [SPLIT] * 7)])], [("try", [("all", [SPLIT] * 14)])]):
            self.assertEqual(len(Script(commands)), 16)
        for commands in ([SPLIT] * 17, [many_commands(17)], [SPLIT, many_commands(16, list)], [SPLIT] * 200,
                         [("first", [SPLIT] * 8, [("try", [SPLIT] * 7)])], [("try", [("all", [SPLIT] * 15)])]):
            with self.assertRaises(TooMany) as caught:
                Script(commands)
            self.assertEqual(caught.exception.most, 16)

    def test_wrong_commands_go_ahead_of_too_many(self):
        self.check([SPLIT] * 17 + [None], (17,))
        self.check([many_commands(20), ("try", [SPLIT, 1])], (1, 0, 1))


class TextsTest(unittest.TestCase):
    def test_texts_of_commands(self):
        for text, command in {**SIMPLE, **BLOCKS}.items():
            self.assertEqual(Script([command]).text(), text)
            script = Script.read(text)
            self.assertEqual(script.commands(), [command])
            self.assertEqual(script, Script([command]))

    def test_texts_of_references(self):
        for text, reference in REFERENCES.items():
            for line, command in ((f"drop {text}", ("drop", reference)), (f"open {text} x y", ("open", reference, "x", "y")),
                                  (f"use {text} {text} x", ("use", reference, reference, "x"))):
                self.assertEqual(Script([command]).text(), line)
                self.assertEqual(Script.read(line).commands(), [command])

    def test_texts_of_many_commands(self):
        commands, texts = list(BLOCKS.values())[:7], list(BLOCKS)[:7]
        self.assertEqual(Script(commands).text(), "\n".join(texts))
        self.assertEqual(Script.read("\n".join(texts)).commands(), commands)
        self.assertEqual(Script().text(), "")
        self.assertEqual(Script.read(""), Script())
        self.assertEqual(Script.read(text="").commands(), [])

    def check(self, text, line):
        with self.assertRaises(InvalidText) as caught:
            Script.read(text)
        self.assertEqual(caught.exception.line, line)
        self.assertNotIsInstance(caught.exception.line, bool)

    def test_no_strings(self):
        for value in OTHER_VALUES:
            if not isinstance(value, str):
                self.check(value, 0)
        for value in (SPLIT, ["split"], b"split", Script(), {}):
            self.check(value, 0)

    def test_wrong_lines(self):
        wrong = [
            "", " ", "  ", "split ", " split", "Split", "splits", "split split", "left right", "spl it", "intro", "intro ",
            "intro H", "intro  h", "intro h ", " intro h", "intro h k", "intro abcdefg", "intro #1", "exact", "exact ",
            "exact h k", "exact #0", "exact #5", "exact #", "exact @", "exact #01", "exact # 1", "exact #11", "exact @0",
            "exact @5", "exact #a", "exact #1 ", "exact ==", "exact >>", "exact <", "exact H", "exact abcdefg",
            "exact []", "exact [", "exact ]", "exact [p", "exact p]", "exact [p]]", "exact [[p]]", "exact [(p)]",
            "exact [(p >q)]", "exact [(p > q)", "exact [p > q]", "exact [ p]", "exact [p ]", "exact h:", "exact :[p]",
            "exact h:[]", "exact h[p]", "exact h: [p]", "exact h::[p]", "exact H:[p]", "exact abcdefg:[p]", "exact h:p",
            "exact h:[p]x", "exact hk[p]", "exact [px", "exact h:[px", "exact [p]h", "exact [?]", "exact [?A]", "exact [?ab]", "exact [(((((p > q) > q) > q) > q) > q)]",
            "exact h:k:[p]", "exact [h:[p]]", "exact (p > q)", "exact 0",
            "have h", "have h ", "have p", "have h p q", "have h ?a", "have h (p > ?a)", "have h [p]", "have h (p > q",
            "have h p)", "have H p", "have h  p", "have (p > q) h", "have h (p  > q)", "have h P", "have h #1",
            "recall", "recall H", "recall #1", "open = x", "open = x y z", "open x y", "open = X y", "open = x Y",
            "open = #1 y", "use = = X", "use = =", "use =", "use h [p] ", "use h [p]x y", "use h x", "drop", "move",
            "drop h h", "move h h", "apply", "absurd 0", "repeat", "repeat 0", "repeat 4", "repeat x", "repeat 1 1",
            "repeat 01", "repeat +1", "repeat -1", "repeat  1", "repeat 1 ", "Try", "try x", "try ", "all ", "all x",
            "first ", "first x", "else", "end", "else ", "end ", "done", "intro\th", "-", "(", "[", "]", ")", "()", "[]"]
        for line in wrong:
            for before in ((), (SPLIT,), (SPLIT, SPLIT)):
                for after in ([], ["split"], [""], ["nothing"], ["end"]):
                    text = "\n".join(["split"] * len(before) + [line] + after)
                    if text:
                        self.check(text, len(before))
            if line != "end":
                self.check(f"try\n{line}\nend", 1)
            if line != "else":
                self.check(f"all\nfirst\n{line}\nelse\nend", 2)
        self.check("intro h" + " " * 2000, 0)
        self.check("have h " + "(" * 2000, 0)
        self.check("exact [" + "(" * 2900, 0)
        self.check("x" * 3000, 0)

    def test_wrong_line_feeds(self):
        self.check("\n", 0)
        self.check("split\n", 1)
        self.check("\nsplit", 0)
        self.check("split\n\nsplit", 1)
        self.check("try\nend\n", 2)
        self.check("\n" * 2999, 0)

    def test_lacking_marks(self):
        for text in ("try", "all", "repeat 2", "first", "first\nelse", "try\nsplit", "first\nsplit\nelse\nsplit", "try\nall\nend",
                     "first\ntry\nend", "first\nelse\ntry\nend", "try\nfirst\nelse\nend", "split\nsplit\ntry"):
            self.check(text, len(text.split("\n")))

    def test_marks_at_a_wrong_place(self):
        self.check("end", 0)
        self.check("else", 0)
        self.check("split\nend\nend", 1)
        self.check("try\nelse\nend", 1)
        self.check("all\nsplit\nelse\nend", 2)
        self.check("repeat 1\nelse", 1)
        self.check("first\nend", 1)
        self.check("first\nsplit\nend\nelse\nend", 2)
        self.check("first\nelse\nelse\nend", 2)
        self.check("first\nelse\nend\nend", 3)
        self.check("try\nend\nend", 2)
        self.check("try\ntry\nend\nelse", 3)

    def test_depth(self):
        self.assertEqual(len(Script.read("try\ntry\nsplit\nend\nend")), 3)
        self.assertEqual(len(Script.read("try\ntry\ntry\nend\nend\nend")), 3)
        for line in ("split", "try", "all", "first", "repeat 1", "nothing", "", "else"):
            self.check(f"try\ntry\ntry\n{line}\nend\nend\nend", 3)
        self.check("split\nfirst\nelse\nall\nrepeat 3\nend\nfirst\nelse\nleft\nend\nend\nend", 8)
        self.check("try\n" * 100 + "split" + "\nend" * 100, 3)

    def test_formulas_of_each_depth(self):
        for depth in range(1, 14):
            text = "have x " + "(" * (depth - 1) + "p" + " > q)" * (depth - 1)
            if depth <= 10:
                self.assertEqual(Script.read(text).commands(), [("have", "x", nested(depth))])
            else:
                self.check(text, 0)
            text = "exact [" + "(" * (depth - 1) + "?a" + " > q)" * (depth - 1) + "]"
            if depth <= 5:
                self.assertEqual(Script.read(text).commands(), [("exact", ("shape", nested(depth, hole("a"))))])
            else:
                self.check(text, 0)

    def test_too_many(self):
        for text in ("\n".join(["split"] * 16), "try\n" + "split\n" * 15 + "end", "first\n" + "split\n" * 15 + "else\nend"):
            self.assertEqual(len(Script.read(text)), 16)
        for text in ("\n".join(["split"] * 17), "try\n" + "split\n" * 16 + "end", "first\n" + "split\n" * 16 + "else\nend",
                     "\n".join(["split"] * 400)):
            with self.assertRaises(TooMany) as caught:
                Script.read(text)
            self.assertEqual(caught.exception.most, 16)
        self.check("split\n" * 17 + "splits", 17)
        self.check("try\n" + "split\n" * 20 + "nd", 21)
        self.check("try\n" + "split\n" * 19 + "split", 21)


def ways_to_close(lines):
    """Some lists of marks behind lines, one of which closes all blocks if that can be done at all."""
    found = [[]]
    for line in lines:
        if line.split(" ")[0] in ("try", "all", "repeat"):
            found = [["end"] + marks for marks in found]
        elif line == "first":
            found = [["else", "end"] + marks for marks in found]
        elif line in ("else", "end"):
            found = [marks[1:] for marks in found]
    return found


class ChangedTextsTest(unittest.TestCase):
    """Texts with small changes: each line ahead of the one that is told can stand there, and this one cannot."""

    def reads(self, lines):
        try:
            script = Script.read("\n".join(lines))
        except TooMany:
            return True
        except InvalidText:
            return False
        self.assertEqual(script.text(), "\n".join(lines))
        self.assertEqual(Script(script.commands()), script)
        return True

    def check(self, lines):
        if self.reads(lines):
            return 0
        with self.assertRaises(InvalidText) as caught:
            Script.read("\n".join(lines))
        at = caught.exception.line
        before = lines[:at]
        self.assertTrue(any(self.reads(before + marks) for marks in ways_to_close(before)), lines)
        if at < len(lines):
            here = lines[:at + 1]
            # An empty line by itself would be the text of a script without commands.
            self.assertFalse(here != [""] and any(self.reads(here + marks) for marks in ways_to_close(here)), lines)
        else:
            self.assertEqual(at, len(lines))
        return 1

    def test_changed_texts(self):
        wrong = 0
        for seed in range(1500):
            random = Random(seed)
            lines = model.lines(model.random_commands(random, 8))
            if not lines:
                continue
            at = random.randrange(len(lines))
            kind = random.random()
            if kind < 0.25:
                del lines[at]
            elif kind < 0.5:
                lines.insert(at, random.choice(["else", "end", "try", "first", "all", "repeat 2", "split", "", "have h p q"]))
            else:
                place = random.randrange(len(lines[at]))
                sign = random.choice(["", " ", "p", "(", ")", "[", "]", "?", "#", "1", "0", ">", ":", "A"])
                lines[at] = lines[at][:place] + sign + lines[at][place + random.randint(0, 1):]
            wrong += self.check(lines) if lines else 0
        self.assertGreater(wrong, 500)


class MethodsTest(unittest.TestCase):
    COMMANDS = [("intro", "x"), ("first", [("recall", "b"), ("try", [("recall", "a")])], ((SPLIT), ("recall", "b"))), (
        "repeat", 2, [("recall", "zz"), ("have", "h", FORMULA)]), ("recall", "a"), ("use", ("both", "k", SHAPE), (
            "shape", atom("r")), "m")]

    def test_commands(self):
        script = Script(self.COMMANDS)
        expected = [("intro", "x"), ("first", (("recall", "b"), ("try", (("recall", "a"),))), (SPLIT, ("recall", "b"))), (
            "repeat", 2, (("recall", "zz"), ("have", "h", FORMULA))), ("recall", "a"), self.COMMANDS[4]]
        self.assertEqual(script.commands(), expected)
        self.assertIsInstance(script.commands(), list)
        self.assertEqual(Script(tuple(self.COMMANDS)), script)
        self.assertEqual(Script(commands=self.COMMANDS), script)
        self.assertEqual(Script(script.commands()), script)
        self.assertEqual(len(script), 12)
        self.assertEqual(repr(script), "Script(12 commands)")
        self.assertEqual([Script().commands(), len(Script()), repr(Script())], [[], 0, "Script(0 commands)"])
        self.assertEqual(repr(Script([SPLIT])), "Script(1 commands)")

    def test_lists_are_copied(self):
        block, inner = [SPLIT], [SPLIT]
        commands = [("try", block), ("first", (("all", inner),), [])]
        script = Script(commands)
        block.append(None)
        inner.append(None)
        commands.append(None)
        self.assertEqual(script.commands(), [("try", (SPLIT,)), ("first", (("all", (SPLIT,)),), ())])
        script.commands().append(None)
        self.assertEqual(len(script.commands()), 2)
        self.assertEqual(commands[0], ("try", [SPLIT, None]))
        script.words().append("a")
        script.recalled().append("a")
        self.assertEqual([script.words(), script.recalled()], [[], []])

    def test_walk(self):
        script = Script(self.COMMANDS)
        first, repeat = script.commands()[1], script.commands()[2]
        expected = [((0,), ("intro", "x")), ((1,), first), ((1, 0, 0), ("recall", "b")), (
            (1, 0, 1), ("try", (("recall", "a"),))), ((1, 0, 1, 0, 0), ("recall", "a")), ((1, 1, 0), SPLIT), (
                (1, 1, 1), ("recall", "b")), ((2,), repeat), ((2, 0, 0), ("recall", "zz")), (
                    (2, 0, 1), ("have", "h", FORMULA)), ((3,), ("recall", "a")), ((4,), self.COMMANDS[4])]
        self.assertEqual(list(script.walk()), expected)
        self.assertTrue(inspect.isgenerator(script.walk()))
        self.assertEqual(list(Script().walk()), [])
        self.assertEqual(len(expected), len(script))

    def test_words(self):
        self.assertEqual(Script(self.COMMANDS).words(), ["a", "b", "h", "k", "m", "p", "q", "r", "x", "zz"])
        for text, words in {
                "intro b": ["b"], "exact h": ["h"], "apply #1": [], "drop @2": [], "move =": [], "exact >": [],
                "exact [(?a > (b & ?c))]": ["b"], "exact z:[(y & ?c)]": ["y", "z"], "open q n m": ["m", "n", "q"],
                "use [c] b:[0] a": ["a", "b", "c"], "have x (y > z)": ["x", "y", "z"], "have x 0": ["x"],
                "recall f": ["f"], "absurd": [], "repeat 3\nend": [], "try\nall\nintro a\nend\nend": ["a"],
                "first\nintro b\nelse\nintro a\nend": ["a", "b"], "intro a\nintro a": ["a"], "": []}.items():
            self.assertEqual(Script.read(text).words(), words, text)

    def test_recalled(self):
        self.assertEqual(Script(self.COMMANDS).recalled(), ["b", "a", "zz"])
        self.assertEqual(Script().recalled(), [])
        self.assertEqual(Script.read("intro a\nexact b").recalled(), [])
        self.assertEqual(Script.read("recall z\nrecall a\nrecall z").recalled(), ["z", "a"])
        self.assertEqual(Script.read("first\nelse\nrecall b\nend\nrecall a").recalled(), ["b", "a"])

    def test_without(self):
        script = Script(self.COMMANDS)
        for at in range(5):
            other = script.without(at)
            self.assertEqual(other.commands(), script.commands()[:at] + script.commands()[at + 1:])
            self.assertEqual(script.without(at=at), other)
        self.assertEqual(len(script), 12)
        self.assertEqual(Script([SPLIT]).without(0), Script())
        self.assertEqual(Script([SPLIT, SPLIT, SPLIT]).without(1), Script([SPLIT, SPLIT]))

    def test_commands_of_both(self):
        one, other = Script(self.COMMANDS[:2]), Script(self.COMMANDS[2:])
        self.assertEqual(one + other, Script(self.COMMANDS))
        self.assertEqual((other + one).commands(), other.commands() + one.commands())
        self.assertEqual(one + Script(), one)
        self.assertEqual(Script() + one, one)
        self.assertEqual(len(one), 7)
        for value in ([SPLIT], (SPLIT,), None, "split"):
            with self.assertRaises(TypeError):
                Script() + value
        for many in (0, 1, 8, 16):
            self.assertEqual(len(Script([SPLIT] * many) + Script([SPLIT] * (16 - many))), 16)
        for one, other in ((1, 16), (16, 1), (8, 9), (16, 16)):
            with self.assertRaises(TooMany) as caught:
                Script([SPLIT] * one) + Script([many_commands(other)])
            self.assertEqual(caught.exception.most, 16)

    def test_equal_scripts(self):
        self.assertEqual(Script([("try", [SPLIT])]), Script([("try", (SPLIT,))]))
        self.assertNotEqual(Script([SPLIT]), Script([SPLIT, SPLIT]))
        self.assertNotEqual(Script([("try", [SPLIT])]), Script([("all", [SPLIT])]))
        self.assertNotEqual(Script([("left",), ("right",)]), Script([("right",), ("left",)]))
        for value in ([], (), [SPLIT], "split", None, 0, Context(), ((SPLIT),)):
            self.assertFalse(Script() == value)
            self.assertFalse(Script([SPLIT]) == value)
            self.assertTrue(Script([SPLIT]) != value)

    def test_read_is_a_static_method(self):
        self.assertIsInstance(Script.__dict__["read"], staticmethod)
        self.assertEqual(Script([SPLIT]).read("left").commands(), [("left",)])


if __name__ == "__main__":
    unittest.main()
