"""Point 18: whether two scripts end alike in all wider contexts."""

import unittest
from random import Random

from addedgrounds.contexts import Context
from addedgrounds.errors import InvalidFormula, InvalidNumber, TooLarge, TooMany
from addedgrounds.parting import Alike, Pair, Parted, asked_both, compare, same_end
from addedgrounds.scripts import Script
from addedgrounds.steady import Steady, Verdict, decide
from tests import model, plain
from tests.claims import (
    FACTS, LIMITS, all_wider, claim, made_wider, other_commands, pair, random_parts, sized)
from tests.samples import OTHER_VALUES, P, Q, atom, deep_list, deep_tuple, hole, nested, part
from tests.test_steady import MANY, POOL, changes_of

FIRST = "first\nexact h\nelse\nexact =\nend"


def tree_of(tested, commands):
    """The nodes of the tree of a pair of scripts without facts by the second reading."""
    return plain.tree(
        tested.context.rows(), lambda case: plain.told_on_both(commands, case, P, {}), 4000)


def ends_of(commands, rows, goal, facts):
    """How a run ends by the second reading, as far as ends may be alike."""
    end = model.end_of(commands, rows, goal, facts)
    return end[:1] if end[0] == "stopped" else end


class PairsTest(unittest.TestCase):
    def test_parts(self):
        context, facts = Context.read("h: p"), {"f": Q}
        tested = Pair(Script.read("recall f"), Script.read("recall f\nmove f"), context, P, facts=facts)
        self.assertEqual(tested.context, context)
        facts["f"] = P
        self.assertIs(same_end(tested, Context()), True)
        self.assertEqual(
            tested, Pair(one=Script.read("recall f"), other=Script.read("recall f\nmove f"), context=context, goal=P,
                         facts={"f": Q}))

    def test_errors(self):
        for rows in (8, 9):
            for value in OTHER_VALUES + [hole("a"), part(0), nested(11)]:
                with self.assertRaises(InvalidFormula) as caught:
                    Pair(Script(), Script(), Context([("h", P)] * rows), value)
                self.assertEqual(caught.exception.value, value)
        with self.assertRaises(TooMany) as caught:
            Pair(Script(), Script(), Context([("h", P)] * 9), P)
        self.assertEqual(caught.exception.most, 8)
        self.assertEqual(len(Pair(Script(), Script(), Context([("h", P)] * 8), P).context), 8)

    def test_equal_pairs(self):
        one = pair("exact h", "exact =", "h: p", "p", {"f": P, "g": Q})
        self.assertEqual(one, pair("exact h", "exact =", "h: p", "p", {"g": Q, "f": P}))
        for other in (pair("exact =", "exact h", "h: p", "p", {"f": P, "g": Q}), pair("exact h", "exact =", "h: p", "p"),
                      pair("exact h", "exact =", "k: p", "p", {"f": P, "g": Q}),
                      pair("exact h", "exact =", "h: p", "q", {"f": P, "g": Q}),
                      claim("exact h", "h: p", "p", {"f": P, "g": Q}), None, 0):
            self.assertNotEqual(one, other)

    def test_repr(self):
        self.assertEqual(repr(pair("exact h", "", "h: p", "p")), "Pair(1 and 0 commands)")
        self.assertEqual(repr(pair("try\nexact h\nend", "split\nsplit\nsplit", "", "p")), "Pair(2 and 3 commands)")

    def test_same_end(self):
        for one, other, text, expected in (
                ("exact h", "exact =", "h: p", True), ("exact h", "exact =", "h: p\nh: q", False),
                ("exact h", "split", "h: q", True), ("exact h", "", "h: q", False), ("exact h", "", "h: p", False),
                ("", "", "h: q", True), ("move h", "", "h: q", True), ("move h", "", "h: q\nk: q", False),
                ("move h", "", "h: q\nh: q", True), ("absurd", "", "h: q", False), ("drop h", "drop #1", "h: q", True),
                ("exact h", "exact h\ntry\nsplit\nend", "h: p", True)):
            self.assertIs(same_end(pair(one, other, "", "p"), Context.read(text)), expected, (one, other, text))
        self.assertIs(same_end(pair("recall f", "try\nrecall f\nend", "", "p", {"f": P}), Context()), True)
        self.assertIs(same_end(pair=pair("recall f", "try\nrecall f\nend", "", "p"), context=Context()), False)


class CompareTest(unittest.TestCase):
    def check(self, told, *parts):
        verdict = compare(pair(*parts))
        self.assertEqual((verdict.told(), verdict.holds()), (told, True))
        return verdict

    def test_alike(self):
        self.check("alike", "", "", "h: p", "p")
        self.check("alike", "exact =", "exact [p]", "h: p", "p")
        self.check("alike", "exact h", "exact h", "h: p", "p")
        self.check("alike", "split", "intro x", "h: p", "p")
        self.check("alike", "exact =", FIRST, "h: p", "p")
        self.check("alike", "drop h", "drop h:[?b]", "h: p", "p")
        self.check("alike", "try\nexact #1\nend", "first\nexact #1\nelse\nend", "h: p", "p")

    def test_parted_at_once(self):
        self.check("parted 0", "exact h", "", "h: p", "p")
        self.check("parted 0", "absurd", "", "", "p")
        self.check("parted 0", "drop h", "", "h: p", "p")
        self.check("parted 0", "move h", "", "h: p\nk: p", "p")
        self.check("parted 1", "exact h", "exact =", "h: p", "p")
        self.check("parted 1", "drop #1", "drop @1", "h: p", "p")
        self.check("parted 0", "drop #1", "drop @1", "h: p\nh: q", "p")
        self.check("parted 1", "drop #1", "drop @1", "h: p\nh: p", "p")
        self.check("parted 1", "try\nexact #1\nend", "try\nexact =\nend", "h: p", "p")

    def test_parted_by_a_row_in_a_gap(self):
        verdict = self.check("parted 1", "move h", "", "h: p", "p")
        self.assertEqual(verdict.wider.rows()[0], ("h", P))
        name, formula = verdict.wider.rows()[1]
        self.assertTrue(name not in ("h", "p") and formula not in (P, atom(name)))
        verdict = self.check("parted 1", "move =", "", "h: p\nk: q", "q")
        self.assertEqual([len(verdict.wider), verdict.places()], [3, [0, 1]])

    def test_the_row_in_a_gap_has_new_words(self):
        # The row is in neither script, as it would be dropped by both.
        for dropping in ("try\ndrop a\nend", "try\ndrop [a]\nend", "try\ndrop [b]\nend"):
            self.check("parted 1", dropping + "\nmove h", dropping, "h: p", "p")
            self.check("parted 1", dropping, dropping + "\nmove h", "h: p", "p")
        # A newest row that one script knows is moved to where it is.
        for look in ("a", "b", "[a]", "[b]"):
            asking = "try\ndrop k\nsplit\nend\n" * 2
            moving = f"first\nmove {look}\n{asking}else\nmove h\nend"
            self.check("parted 1", moving, "", "h: p", "p")
            self.check("parted 1", "", moving, "h: p", "p")

    def test_the_least_contexts_of_all_ends(self):
        # Two rows x part the scripts at once, which the tree tells first, and one row x does not part them.
        one = "first\ndrop x\ndrop x\nabsurd\nelse\nfirst\ndrop x\nelse\nmove h\nend\nend"
        other = "first\ndrop x\ndrop x\nelse\ntry\ndrop x\nend\nend"
        self.check("parted 2", one.replace("move h\n", ""), other, "h: p", "p")
        verdict = self.check("parted 1", one, other, "h: p", "p")
        self.assertNotIn("x", verdict.wider.names())

    def test_gaps_that_can_have_no_rows(self):
        # The look by ?b leaves a gap that no row can be in, and moving a row ahead of it behind it changes nothing.
        look = "try\nexact [?b]\nend"
        case = ((("own", "h", Q), ("gap", 0, ((None, hole("b")),))), ())
        self.assertEqual(asked_both(pair(look + "\nmove @1", look, "h: q", "p"), case), (None, ("no",)))
        self.check("parted 1", look + "\nmove @1", look, "h: q", "p")
        self.check("alike", look + "\ndrop [?b]", look + "\ndrop #1", "h: q", "p")

    def test_told_of_ends(self):
        gap, any_hole, own = ("gap", 0, ()), ("gap", 0, ((None, hole("z")),)), ("own", "h", P)
        moving, still = "move @1", ""
        for case, one, other, told in (
                (((gap,), ()), "", "", ("no",)), (((gap,), ()), "split", "intro x", ("no",)),
                (((gap,), ()), "split", "", ("at once",)), (((gap,), ()), "absurd", "", ("at once",)),
                (((own, gap), ()), moving, still, (0,)), (((own, any_hole), ()), moving, still, ("no",)),
                (((own, any_hole, ("gap", 7, ())), ()), moving, still, (7,)),
                (((own, ("gap", 3, (("h", hole("a")),))), ()), moving, still, (3,)),
                (((own, ("gap", 3, ((None, ("then", hole("a"), P)), (None, Q)))), ()), moving, still, (3,)),
                (((own, ("gap", 3, ((None, P), (None, hole("b"))))), ()), "move [p]", still, ("no",)),
                (((own, ("gap", 3, ((None, P), (None, ("or", hole("b"), P))))), ()), "move [p]", still, (3,)),
                (((gap, own), ()), moving, still, None), (((own, gap), ()), moving, "move h", None),
                (((own, gap), ()), "", "exact @1", ("at once",))):
            question, found = asked_both(pair(one, other, "", "p"), case)
            self.assertEqual(found, told)
            self.assertEqual(question is None, told is not None)

    def test_unknown_parts_are_unlike(self):
        # Both rows may be equal, but in the contexts with as few added rows they need not be.
        verdict = self.check("parted 2", "try\nmove #2\nend", "", "", "p")
        one, other = verdict.wider.rows()
        self.assertTrue(one[0] != other[0] and one[1] != other[1])

    def test_facts(self):
        self.check("alike", "recall f\nexact f", "exact =", "h: p", "p", {"f": P})
        self.check("parted 0", "recall f\nexact f", "exact =", "", "p", {"f": P})
        self.check("parted 0", "recall f\nexact f", "recall g\nexact g", "", "p", {"f": P})
        verdict = self.check("parted 1", "move h", "", "h: p", "p", {"f": atom("a"), "g": ("and", atom("b"), P)})
        self.assertNotIn(verdict.wider.rows()[1][1], [atom(name) for name in "abhp"])

    def test_limits(self):
        for value in LIMITS:
            with self.assertRaises(InvalidNumber) as caught:
                compare(pair("exact h", "exact =", "h: p", "p"), limit=value)
            self.assertEqual(repr(caught.exception.value), repr(value))
        for one, other, context in (("exact h", "exact =", "h: p"), ("exact =", FIRST, "h: p"), ("", "", ""),
                                    ("move h", "", "h: p"), ("drop #1", "drop @1", "h: p")):
            many = len(tree_of(pair(one, other, context, "p"), [Script.read(text).commands() for text in (one, other)]))
            self.assertEqual(
                compare(pair(one, other, context, "p"), limit=many).told(),
                compare(pair=pair(one, other, context, "p"), limit=4000).told())
            if many > 1:
                with self.assertRaises(TooMany) as caught:
                    compare(pair(one, other, context, "p"), limit=many - 1)
                self.assertEqual(caught.exception.most, many - 1)

    def test_too_large_and_too_many(self):
        tested = Pair(Script.read("exact #1"), Script(), Context(), sized(199))
        self.assertTrue(compare(tested).holds())
        tested = Pair(Script(), Script.read("exact #1"), Context(), sized(201))
        with self.assertRaises(TooLarge) as caught:
            compare(tested)
        self.assertEqual(caught.exception.most, 200)
        none = MANY.replace("drop #1\nelse", "drop #1\nsplit\nelse", 1)
        with self.assertRaises(TooMany) as caught:
            compare(pair(MANY, "recall f\nexact f", "", "p", {"f": P}))
        self.assertEqual((caught.exception.most, len(Script.read(none))), (40, 16))
        less = MANY.replace("repeat 3\ndrop #1\nend\n", "", 1)
        self.assertEqual(compare(pair(less, "recall f\nexact f", "", "p", {"f": P})).told(), "parted 37")

    def test_random_pairs(self):
        random = Random(18)
        found = {"alike": 0, "parted": 0}
        for _ in range(300):
            commands, rows, goal = random_parts(random, 5)
            others = other_commands(random, commands)
            tested = Pair(Script(commands), Script(others), Context(rows), goal, facts=FACTS)
            try:
                verdict = compare(tested, limit=250)
            except TooMany:
                continue
            found[verdict.KIND] += 1
            self.assertTrue(verdict.holds())
            for _ in range(8):
                some, places = made_wider(random, rows, range(len(rows)))
                alike = ends_of(commands, some, goal, FACTS) == ends_of(others, some, goal, FACTS)
                self.assertEqual(same_end(tested, Context(some)), alike)
                self.assertTrue(alike or verdict.KIND == "parted")
            if verdict.KIND == "parted":
                self.check_parted(verdict, tested, commands, others, goal)
        self.assertGreater(min(found.values()), 20)

    def check_parted(self, verdict, tested, commands, others, goal):
        self.assertTrue(verdict.wider.is_wider(tested.context))
        rows = verdict.wider.rows()
        self.assertNotEqual(ends_of(commands, rows, goal, FACTS), ends_of(others, rows, goal, FACTS))
        if verdict.added <= 2:
            for added in range(verdict.added):
                for context in all_wider(tested.context.rows(), added, POOL):
                    self.assertTrue(same_end(tested, context))

    def test_random_trees_are_those_of_a_second_reading(self):
        random = Random(19)
        known = 0
        for _ in range(100):
            commands, rows, goal = random_parts(random, 6)
            scripts = (commands, other_commands(random, commands))
            tested = Pair(Script(scripts[0]), Script(scripts[1]), Context(rows), goal, facts=FACTS)
            nodes = plain.tree(rows, lambda case: plain.told_on_both(scripts, case, goal, FACTS), 150)
            for case, question, told in nodes or []:
                self.assertEqual(asked_both(tested, case), (question, told))
                known += 1
            if nodes:
                self.assertIsInstance(compare(tested, limit=len(nodes)), Verdict)
                if len(nodes) > 1:
                    self.assertRaises(TooMany, compare, tested, limit=len(nodes) - 1)
        self.assertGreater(known, 1000)


class VerdictsTest(unittest.TestCase):
    def test_kinds(self):
        tested = pair("exact =", "exact [p]", "h: p", "p")
        alike, parted = compare(tested), compare(pair("move h", "", "h: p", "p"))
        self.assertEqual((Alike.KIND, Parted.KIND), ("alike", "parted"))
        self.assertTrue(isinstance(alike, Alike) and isinstance(parted, Parted))
        self.assertTrue(isinstance(alike, Verdict) and isinstance(parted, Verdict))
        self.assertEqual((repr(alike), repr(parted)), ("Verdict(alike)", "Verdict(parted 1)"))
        self.assertEqual((bool(alike), bool(parted)), (True, False))
        self.assertEqual((alike.claim, parted.claim), (tested, pair("move h", "", "h: p", "p")))
        self.assertEqual((parted.added, parted.places(), len(parted.wider)), (1, [0], 2))
        self.assertFalse(hasattr(parted, "outcome"))

    def test_papers(self):
        for parts in (("exact =", "exact [p]", "h: p", "p"), ("exact =", FIRST, "h: p", "p"), ("", "", "", "p")):
            tested = pair(*parts)
            nodes = compare(tested).nodes()
            self.assertIs(Alike(tested, nodes).holds(), True)
            self.assertIs(Alike(claim=tested, nodes=tuple(nodes)).holds(), True)
            self.assertEqual(Alike(tested, tuple(nodes)).nodes(), tuple(nodes))
            self.assertEqual({node[2] for node in nodes if node[0] == "end"}, {("no",)})
            for changed in changes_of(nodes):
                self.assertIs(Alike(tested, changed).holds(), False, changed)

    def test_papers_of_others(self):
        some = [pair("exact =", "exact [p]", "h: p", "p"), pair("exact [p]", "exact =", "h: p", "p"),
                pair("exact h", "exact h", "h: p", "p"), pair("", "", "h: p", "p"), pair("split", "split", "k: p", "p")]
        for one in some:
            nodes = compare(one).nodes()
            self.assertIs(Alike(pair("move h", "", "h: p", "p"), nodes).holds(), False)
            self.assertIs(Steady(claim("exact =", "h: p", "p"), nodes).holds(), False)
        self.assertIs(Alike(some[0], compare(some[2]).nodes()).holds(), False)
        self.assertIs(Alike(some[3], compare(some[4]).nodes()).holds(), False)
        self.assertIs(Alike(some[0], decide(claim("exact =", "h: p", "p")).nodes()).holds(), False)
        case = (("gap", 0, ()), ("own", "h", P), ("gap", 1, ())), ()
        for told in (("no",), ("at once",), (1,)):
            self.assertIs(Alike(pair("absurd", "", "h: p", "p"), [("end", case, told)]).holds(), False)

    def test_values_that_are_no_papers(self):
        tested = pair("exact =", "exact [p]", "h: p", "p")
        nodes = compare(tested).nodes()
        for value in OTHER_VALUES + [[], (), None, nodes[0], nodes[1:], nodes + [nodes[-1]], deep_list(12), [deep_tuple(11)]]:
            self.assertIs(Alike(tested, value).holds(), False)
            self.assertEqual(Alike(tested, value).nodes(), value)

    def test_parted(self):
        tested = pair("move h", "", "h: p\nh: p", "p")
        wider = Context.read("h: p\nh: p\nk: q")
        for places in ([0, 1], (0, 1)):
            parted = Parted(claim=tested, wider=wider, places=places)
            self.assertEqual((parted.holds(), parted.places(), parted.told()), (True, places, "parted 1"))
        for places in OTHER_VALUES + [[0], [0, 2], [1, 0], [0, 0], [0, True], [False, 1], [0, 1, 2], [-3, -2], [0, 3]]:
            self.assertIs(Parted(tested, wider, places).holds(), False)
            self.assertEqual(Parted(tested, wider, places).places(), places)
        self.assertIs(Parted(tested, Context.read("h: p\nh: p"), [0, 1]).holds(), False)
        self.assertIs(Parted(tested, Context.read("k: q\nh: p\nh: p"), [1, 2]).holds(), False)

    def test_lists_are_copied(self):
        tested = pair("exact =", "exact [p]", "h: p", "p")
        inner = ["x"]
        for verdict in (Alike(tested, (inner, [inner])), Parted(tested, Context(), (inner, [inner]))):
            seen = verdict.nodes if verdict else verdict.places
            inner.append("y")
            self.assertEqual(seen(), (["x"], [["x"]]))
            seen()[0].append("z")
            seen()[1][0].append("z")
            self.assertEqual(seen(), (["x"], [["x"]]))
            inner.pop()
        nodes = compare(tested).nodes()
        alike = Alike(tested, nodes)
        nodes.clear()
        self.assertIs(alike.holds(), True)


if __name__ == "__main__":
    unittest.main()
