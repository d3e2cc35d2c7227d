"""Points 12, 16 and 17: claims, their trees and papers, and what is decided of them."""

import unittest
from random import Random

from addedgrounds.cases import added_in
from addedgrounds.contexts import Context
from addedgrounds.errors import InvalidFormula, InvalidNumber, TooLarge, TooMany
from addedgrounds.formulas import read_formula
from addedgrounds.scripts import Script
from addedgrounds.sessions import Shown, run
from addedgrounds.steady import Breach, Claim, Steady, Verdict, decide, words_of_claim
from addedgrounds.trees import example_of, new_words
from tests import model, plain
from tests.claims import FACTS, LIMITS, all_wider, claim, made_wider, random_parts, sized
from tests.samples import OTHER_VALUES, P, Q, R, atom, deep_list, deep_tuple, hole, nested, part

GOAL = read_formula("p")
FIRST = "first\nexact h\nelse\nexact =\nend"
# Its runs show the goal with at most 45 rows alone, so that a breach has 46.
MANY = "repeat 3\n" + "repeat 3\ndrop #1\nend\n" * 5 + "end\nfirst\ndrop #1\nelse\nrecall f\nend\nexact f"
A, B = atom("a"), atom("b")
POOL = [(name, formula) for name in ("d", "e", "zz") for formula in (
    A, B, ("false",), atom("zz"), ("then", A, B), ("then", atom("zz"), A), ("and", A, B), ("or", B, A))]


def tree_of(tested):
    """The nodes of the tree of a claim by the second reading."""
    commands = tested.script.commands()
    return plain.tree(
        tested.context.rows(), lambda case: plain.told_on(commands, case, tested.goal, tested.facts()), 4000)


class ClaimsTest(unittest.TestCase):
    def test_parts(self):
        script, context, facts = Script.read("exact ="), Context.read("h: p"), {"fa": Q}
        tested = Claim(script, context, GOAL, facts=facts)
        self.assertEqual((tested.script, tested.context, tested.goal, tested.facts()), (script, context, GOAL, {"fa": Q}))
        facts["fb"] = R
        self.assertEqual(tested.facts(), {"fa": Q})
        tested.facts()["fb"] = R
        self.assertEqual(tested.facts(), {"fa": Q})
        self.assertEqual(Claim(script=script, context=context, goal=GOAL).facts(), {})
        self.assertEqual(Claim(script, context, GOAL, facts=None).facts(), {})

    def test_errors(self):
        script = Script()
        for rows in (8, 9):
            context = Context([("h", P)] * rows)
            for value in OTHER_VALUES + [hole("a"), part(0), nested(11)]:
                with self.assertRaises(InvalidFormula) as caught:
                    Claim(script, context, value)
                self.assertEqual(caught.exception.value, value)
        self.assertEqual(repr(Claim(script, Context([("h", P)] * 8), nested(10))), "Claim(0 commands, 8 rows)")
        with self.assertRaises(TooMany) as caught:
            Claim(script, Context([("h", P)] * 9), P)
        self.assertEqual(caught.exception.most, 8)

    def test_equal_claims(self):
        one = claim("exact h", "h: p", "p", {"fa": P, "fb": Q})
        self.assertEqual(one, claim("exact h", "h: p", "p", {"fb": Q, "fa": P}))
        for other in (claim("exact =", "h: p", "p", {"fa": P, "fb": Q}), claim("exact h", "k: p", "p", {"fa": P, "fb": Q}),
                      claim("exact h", "h: p", "q", {"fa": P, "fb": Q}), claim("exact h", "h: p", "p", {"fa": P}),
                      claim("exact h", "h: p", "p"), None, 1, Script.read("exact h")):
            self.assertNotEqual(one, other)
        self.assertEqual(claim("", "", "p"), claim("", "", "p", {}))

    def test_repr(self):
        self.assertEqual(repr(claim("exact h\nexact h", "h: p", "p")), "Claim(2 commands, 1 rows)")
        self.assertEqual(repr(claim("try\nexact h\nend", "", "p")), "Claim(2 commands, 0 rows)")

    def test_run_on(self):
        tested = claim("recall fa\nexact fa", "h: p", "q", {"fa": Q})
        self.assertEqual(tested.run_on(Context()), run(tested.script, Context(), Q, facts={"fa": Q}))
        self.assertIsInstance(tested.run_on(context=Context()), Shown)
        self.assertEqual(claim("exact h", "", "p").run_on(Context.read("h: q")).told(), "stopped other")

    def test_shown_everywhere(self):
        self.assertIs(claim("exact =", "h: p", "p").shown_everywhere(), True)
        self.assertIs(claim("exact h", "h: p", "p").shown_everywhere(), False)
        self.assertIs(claim("exact =", "h: p", "p").shown_everywhere(limit=3), True)
        self.check_limits(lambda limit: claim("exact =", "h: p", "p").shown_everywhere(limit=limit))
        self.assertRaises(TooMany, claim("exact =", "h: p", "p").shown_everywhere, limit=2)

    def check_limits(self, call):
        for value in LIMITS:
            with self.assertRaises(InvalidNumber) as caught:
                call(value)
            self.assertEqual(repr(caught.exception.value), repr(value))


class DecideTest(unittest.TestCase):
    def check(self, told, *parts):
        verdict = decide(claim(*parts))
        self.assertEqual((verdict.told(), verdict.holds()), (told, True))
        return verdict

    def test_the_document(self):
        self.check("steady", "exact =", "h: p", "p")
        self.check("breach 1", "exact h", "h: p", "p")
        self.check("steady", FIRST, "h: p", "p")

    def test_no_looks(self):
        self.check("steady", "intro x\nexact x", "", "(p > p)")
        self.check("breach 0", "", "", "p")
        self.check("breach 0", "split", "h: (p & q)", "(p & q)")
        self.check("steady", "recall f\nexact f", "", "q", {"f": Q})
        self.check("breach 0", "recall f", "f: q", "q")

    def test_contexts_without_rows_and_with_equal_rows(self):
        self.check("breach 0", "exact =", "", "p")
        self.check("breach 0", "exact #1", "", "p")
        self.check("breach 1", "exact #1", "h: p\nh: p", "p")
        self.check("breach 1", "exact @1", "h: p\nh: p", "p")
        self.check("steady", "exact h:[p]", "h: p\nh: p", "p")
        self.check("steady", "exact h:[p]", "h: p\nh: q", "p")
        self.check("breach 0", "exact h", "h: p\nh: q", "p")
        self.check("steady", "drop =\nexact =", "h: p\nh: p", "p")
        self.check("breach 0", "drop =\ndrop =\nexact =", "h: p\nh: p", "p")

    def test_more_than_one_added_row(self):
        # Two rows that are neither p stand behind the own row, or a row by itself that is.
        self.check("breach 2", "first\nexact #1\nelse\nexact #2\nend", "h: p", "p")
        self.check("breach 3", "try\nexact #1\nend\ntry\nexact #2\nend\ntry\nexact #3\nend\nall\nabsurd\nend", "h: p", "p")

    def test_unknown_parts(self):
        self.check("breach 1", "apply >\nexact =", "h: p\nk: (p > q)", "q")
        self.check("steady", "apply k:[(p > q)]\nexact =", "h: p\nk: (p > q)", "q")
        self.check("breach 1", "open [(?a & ?b)] x y\nexact x", "h: (p & q)", "p")
        self.check("steady", "open [(p & ?b)] x y\nexact x", "h: (p & q)", "p")
        self.check("steady", "try\nopen #1 x y\nend\nall\nexact =\nend", "h: p", "p")
        self.check("steady", "try\nopen #1 x y\ntry\nopen x x x\nend\nend\nall\nexact h:[p]\nend", "h: p", "p")
        self.check("breach 1", "try\nopen #1 h k\nend\nall\nexact h\nend", "h: p", "p")

    def test_own_rows(self):
        rows = "\n".join(f"{name}: p" for name in "abcdefgh")
        self.check("steady", "exact a:[p]", rows, "p")
        verdict = self.check("breach 1", "exact a", rows, "p")
        self.assertEqual(len(verdict.wider), 9)

    def test_facts(self):
        for facts in ({"f": P}, {"f": P, "other": Q}, {"other": ("then", R, Q), "f": P}):
            verdict = self.check("steady", "recall f\nexact f", "", "p", facts)
            self.assertEqual(verdict.claim.facts(), facts)
        self.check("breach 0", "recall f\nexact f", "", "q", {"f": P, "q": Q})
        self.check("steady", "first\nrecall g\nelse\nrecall f\nend\nexact f", "", "p", {"f": P})
        # Words in facts are no new names: only an atom that is new breaks this one.
        facts = {"f": ("then", atom("a"), ("then", atom("b"), P)), "g": atom("a"), "c": atom("c")}
        verdict = self.check("breach 1", "first\ndrop x:[?b]\nelse\nrecall g\nexact g\nend", "", "a", facts)
        self.assertEqual(verdict.wider.rows()[0][0], "x")
        self.assertNotIn(verdict.wider.rows()[0][1], [atom(name) for name in ("a", "b", "c", "p")])

    def test_large_facts(self):
        deep = nested(100)
        self.check("breach 0", "recall f\nuse f #2 x", "", "p", {"f": deep})

    def test_limits(self):
        for value in LIMITS:
            for tested in (claim("exact =", "h: p", "p"), claim("exact #1", "", "p"), claim(MANY, "", "p", {"f": P})):
                with self.assertRaises(InvalidNumber) as caught:
                    decide(tested, limit=value)
                self.assertEqual(repr(caught.exception.value), repr(value))

    def test_trees_at_the_limit(self):
        for parts in ((FIRST, "h: p", "p"), ("exact h", "h: p", "p"), ("apply >\nexact =", "h: p\nk: (p > q)", "q"),
                      ("", "", "p"), ("exact #4", "", "p"), ("open @1 x y\nexact #2", "h: (p & q)", "p")):
            many = len(tree_of(claim(*parts)))
            told = decide(claim(*parts), limit=many).told()
            self.assertEqual(told, decide(claim(*parts), limit=4000).told())
            self.assertEqual(told, decide(claim(*parts)).told())
            if many > 1:
                with self.assertRaises(TooMany) as caught:
                    decide(claim(*parts), limit=many - 1)
                self.assertEqual(caught.exception.most, many - 1)
        self.assertEqual(len(tree_of(claim(FIRST, "h: p", "p"))), 10)
        self.assertEqual(decide(claim("", "", "p"), limit=1).told(), "breach 0")

    def test_trees_that_are_too_large(self):
        tested = claim("repeat 3\nrepeat 3\nopen #1 x y\nend\nend\nall\nexact =\nend", "h: p", "p")
        for limit in (1, 2, 100, 4000):
            with self.assertRaises(TooMany) as caught:
                decide(tested, limit=limit)
            self.assertEqual(caught.exception.most, limit)

    def test_formulas_that_are_too_large(self):
        for many, refused in ((199, False), (201, True)):
            tested = Claim(Script.read("exact #1"), Context(), sized(many))
            if refused:
                with self.assertRaises(TooLarge) as caught:
                    decide(tested)
                self.assertEqual(caught.exception.most, 200)
                self.assertRaises(TooLarge, tested.shown_everywhere)
            else:
                self.assertEqual(decide(tested).told(), "breach 0")
        # An own row may be as large, but no unknown part that has to be equal to it.
        rows = Context([("h", sized(201))])
        self.assertEqual(decide(Claim(Script.read("exact ="), rows, sized(201))).told(), "steady")
        self.assertRaises(TooLarge, decide, Claim(Script.read("exact h"), rows, sized(201)))

    def test_breaches_with_too_many_rows(self):
        tested = claim(MANY, "", "p", {"f": P})
        with self.assertRaises(TooMany) as caught:
            decide(tested)
        self.assertEqual(caught.exception.most, 40)
        many = len(tree_of(tested))
        with self.assertRaises(TooMany) as caught:
            decide(tested, limit=many - 1)
        self.assertEqual(caught.exception.most, many - 1)
        less = claim(MANY.replace("repeat 3\ndrop #1\nend\n", "", 1), "", "p", {"f": P})
        self.assertEqual(decide(less).told(), "breach 37")
        self.assertEqual(len(decide(less).wider), 37)

    def test_equal_calls(self):
        for parts in ((FIRST, "h: p", "p"), ("exact h", "h: p", "p"), ("open #1 x y\nexact x", "h: (p & q)", "p")):
            one, other = decide(claim(*parts)), decide(claim=claim(*parts))
            self.assertEqual(one.told(), other.told())
            if one:
                self.assertEqual(one.nodes(), other.nodes())
            else:
                self.assertEqual((one.wider, one.places()), (other.wider, other.places()))

    def test_random_claims(self):
        random = Random(16)
        found = {"steady": 0, "breach": 0}
        for _ in range(250):
            commands, rows, goal = random_parts(random, 6)
            tested = Claim(Script(commands), Context(rows), goal, facts=FACTS)
            try:
                verdict = decide(tested, limit=300)
            except TooMany:
                continue
            found[verdict.KIND] += 1
            self.assertTrue(verdict.holds())
            self.assertEqual(bool(verdict), verdict.KIND == "steady")
            for _ in range(10):
                some, places = made_wider(random, rows, range(len(rows)))
                shown = model.end_of(commands, some, goal, FACTS)[0] == "shown"
                self.assertTrue(shown or verdict.KIND == "breach")
            if verdict.KIND == "breach":
                self.check_breach(verdict, commands, goal)
            else:
                self.check_ends(random, verdict, commands, goal)
        self.assertGreater(min(found.values()), 10)

    def check_ends(self, random, verdict, commands, goal):
        """Contexts that come from each end of the tree, and wider ones, in which the goal is shown."""
        words = words_of_claim(verdict.claim.context, goal, FACTS) + verdict.claim.script.words()
        for node in verdict.nodes():
            if node[0] == "end":
                context, places = example_of(node[1], words, None)
                self.assertTrue(context.is_wider(verdict.claim.context))
                for most in (0, 3):
                    some, others = made_wider(random, context.rows(), places, most)
                    self.assertEqual(model.end_of(commands, some, goal, FACTS), ("shown",))
                    self.assertTrue(verdict.claim.run_on(Context(some)))

    def check_breach(self, verdict, commands, goal):
        self.assertTrue(verdict.wider.is_wider(verdict.claim.context))
        self.assertNotEqual(model.end_of(commands, verdict.wider.rows(), goal, FACTS), ("shown",))
        self.assertFalse(verdict.outcome())
        if verdict.added > 2:
            return
        for added in range(verdict.added):
            for context in all_wider(verdict.claim.context.rows(), added, POOL):
                self.assertEqual(model.end_of(commands, context.rows(), goal, FACTS), ("shown",))

    def test_papers_are_those_of_a_second_reading(self):
        for parts in ((FIRST, "h: p", "p"), ("exact =", "h: p", "p"), ("intro x\nexact x", "", "(p > p)"),
                      ("try\nopen #1 x y\nend\nall\nexact =\nend", "h: p", "p"),
                      ("apply k:[(p > q)]\nexact =", "h: p\nk: (p > q)", "q")):
            nodes, others = decide(claim(*parts)).nodes(), tree_of(claim(*parts))
            self.assertEqual(len(nodes), len(others))
            one, other = list(met(nodes)), list(met_plain(others))
            self.assertEqual(one, other)


def met(nodes, place=0):
    """The cases of nodes, each ahead of those into which its question splits it."""
    node = nodes[place]
    yield plain.renumbered(node[1], node[2]) if node[0] == "ask" else plain.renumbered(node[1]) + node[2]
    for number in node[3] if node[0] == "ask" else ():
        yield from met(nodes, number)


def met_plain(nodes, case=None):
    """As met, for the nodes of the second reading."""
    case = nodes[0][0] if case is None else case
    question, told = next(node[1:] for node in nodes if node[0] == case)
    yield plain.renumbered(case, question) if question else plain.renumbered(case) + told
    for kid in plain.split(case, question) if question else ():
        yield from met_plain(nodes, kid)


class VerdictsTest(unittest.TestCase):
    def test_kinds(self):
        self.assertEqual([found.KIND for found in (Verdict, Steady, Breach)], ["unknown", "steady", "breach"])
        self.assertTrue(issubclass(Steady, Verdict) and issubclass(Breach, Verdict))
        tested = claim("exact h", "h: p", "p")
        base = Verdict(tested)
        self.assertEqual((base.claim, base.told(), base.holds(), bool(base)), (tested, "unknown", False, False))
        self.assertEqual(repr(base), "Verdict(unknown)")

    def test_told(self):
        steady, breach = decide(claim("exact =", "h: p", "p")), decide(claim("exact h", "h: p", "p"))
        self.assertIsInstance(steady, Steady)
        self.assertIsInstance(breach, Breach)
        self.assertEqual((repr(steady), repr(breach)), ("Verdict(steady)", "Verdict(breach 1)"))
        self.assertEqual((bool(steady), bool(breach)), (True, False))
        self.assertEqual((steady.claim, breach.claim), (claim("exact =", "h: p", "p"), claim("exact h", "h: p", "p")))
        self.assertTrue(Steady(claim("", "", "p"), None))
        self.assertFalse(Breach(claim("", "", "p"), Context(), None))

    def test_a_breach(self):
        breach = decide(claim("exact h", "h: p", "p"))
        self.assertEqual((breach.added, breach.places()), (1, [0]))
        rows = breach.wider.rows()
        self.assertEqual((rows[0], rows[1][0]), (("h", P), "h"))
        self.assertNotEqual(rows[1][1], P)
        self.assertEqual(breach.outcome(), run(Script.read("exact h"), breach.wider, P))
        self.assertEqual(breach.outcome().told(), "stopped other")

    def test_breaches_that_hold_and_others(self):
        tested = claim("exact h", "h: p\nh: p", "p")
        wider = Context.read("h: p\nk: q\nh: p\nh: q")
        for places in ([0, 2], (0, 2)):
            breach = Breach(tested, wider, places)
            self.assertIs(breach.holds(), True)
            self.assertEqual((breach.places(), type(breach.places())), (places, type(places)))
            self.assertEqual((breach.told(), breach.added), ("breach 2", 2))
        wrong = [[0], [2, 0], [0, 0], [0, 1], [0, 2, 3], [0, 3], [0, 4], [-4, -2], [-2, 0], [False, 2], [0, True], [],
                 ["0", "2"], [[0], [2]], [0, None], {}, "02", [0, (2,)]]
        for places in wrong + OTHER_VALUES:
            self.assertIs(Breach(tested, wider, places).holds(), False, places)
            self.assertEqual(Breach(tested, wider, places).places(), places)
        self.assertIs(Breach(tested, Context.read("h: p\nh: p"), [0, 1]).holds(), False)
        self.assertIs(Breach(tested, Context.read("h: p\nk: q\nh: p"), [0, 2]).holds(), False)
        self.assertIs(Breach(tested, Context.read("k: p\nh: q"), [0, 1]).holds(), False)
        self.assertIs(Breach(claim("exact h", "", "p"), Context(), []).holds(), True)
        self.assertIs(Breach(claim("exact h", "", "p"), Context(), ()).holds(), True)

    def test_papers_that_hold(self):
        for parts in ((FIRST, "h: p", "p"), ("exact =", "h: p", "p"), ("intro x\nexact x", "", "(p > p)")):
            steady = decide(claim(*parts))
            nodes = steady.nodes()
            self.assertIs(Steady(claim(*parts), nodes).holds(), True)
            self.assertIs(Steady(claim=claim(*parts), nodes=tuple(nodes)).holds(), True)
            self.assertEqual(Steady(claim(*parts), tuple(nodes)).nodes(), tuple(nodes))
            self.assertEqual(Steady(claim(*parts), nodes).nodes(), nodes)
            for node in nodes:
                self.assertIn((node[0], len(node)), (("ask", 4), ("end", 3)))

    def test_papers_in_another_order_hold(self):
        tested = claim(FIRST, "h: p", "p")
        nodes = decide(tested).nodes()
        # The places of the nodes, each ahead of those into which it splits, one branch after the other.
        order = []
        waiting = [0]
        while waiting:
            place = waiting.pop()
            order.append(place)
            waiting += nodes[place][3] if nodes[place][0] == "ask" else ()
        self.assertNotEqual(order, sorted(order))
        moved = [nodes[place] for place in order]
        moved = [(*node[:3], tuple(order.index(at) for at in node[3])) if node[0] == "ask" else node for node in moved]
        self.assertIs(Steady(tested, moved).holds(), True)
        self.assertIs(Steady(tested, nodes[::-1]).holds(), False)

    def test_papers_of_other_claims(self):
        some = [claim(FIRST, "h: p", "p"), claim("exact =", "h: p", "p"), claim("exact =", "k: p", "p"),
                claim("exact =", "h: q", "q"), claim("exact h:[p]", "h: p", "p"), claim("intro x\nexact x", "", "(p > p)"),
                claim("exact =", "h: p\nh: p", "p")]
        for one in some:
            for other in some:
                self.assertIs(Steady(one, decide(other).nodes()).holds(), one == other)
        broken = claim("exact h", "h: p", "p")
        for other in some:
            self.assertIs(Steady(broken, decide(other).nodes()).holds(), False)

    def test_true_papers_of_claims_that_are_not_steady(self):
        tested = claim("exact h", "h: p", "p")
        found = tree_of(tested)
        nodes = []
        for case, question, told in found:
            numbers = tuple(
                at for kid in (plain.split(case, question) if question else ())
                for at, other in enumerate(found) if other[0] == kid)
            nodes.append(("ask", case, question, numbers) if question else ("end", case, told))
        self.assertIs(Steady(tested, nodes).holds(), False)
        self.assertIs(Steady(claim("", "", "p"), [("end", ((("gap", 0, ()),), ()), ("open", 1))]).holds(), False)
        self.assertIs(
            Steady(claim("absurd", "", "p"), [("end", ((("gap", 0, ()),), ()), ("shown",))]).holds(), False)

    def test_claims_without_a_paper(self):
        tested = Claim(Script.read("exact h"), Context([("h", sized(201))]), sized(201))
        case = (("gap", 0, ()), ("own", "h", sized(201)), ("gap", 1, ())), ()
        self.assertIs(Steady(tested, [("end", case, ("shown",))]).holds(), False)
        pattern = ("h", hole("a"))
        kids = plain.split(case, ("newest", 1, pattern))
        row = kids[1][0][3]
        question = ("fits", (None, row[2]), (None, sized(201)))
        nodes = [("ask", case, ("newest", 1, pattern), (1, 2)), ("end", kids[0], ("shown",)),
                 ("ask", kids[1], question, (3, 4)), ("end", case, ("shown",)), ("end", case, ("shown",))]
        self.assertIs(Steady(tested, nodes).holds(), False)

    def test_values_that_are_no_papers(self):
        tested = claim("exact =", "h: p", "p")
        nodes = decide(tested).nodes()
        wrong = [None, True, 0, "", "x", [], (), [None], [[]], [()], nodes[0], [nodes], nodes[1:], nodes[:-1],
                 nodes + [nodes[-1]], nodes + [None], [list(node) for node in nodes], {}, [{}], [nodes[0]] * 3,
                 deep_list(12), deep_tuple(12), [deep_tuple(11)] * len(nodes)]
        for value in wrong + OTHER_VALUES:
            steady = Steady(tested, value)
            self.assertIs(steady.holds(), False, value)
            self.assertEqual(steady.nodes(), value)
            self.assertEqual((steady.told(), bool(steady)), ("steady", True))

    def test_papers_that_are_changed_in_one_place(self):
        for parts in ((FIRST, "h: p", "p"), ("exact =", "h: p", "p")):
            tested = claim(*parts)
            nodes = decide(tested).nodes()
            some = 0
            for changed in changes_of(nodes):
                self.assertIs(Steady(tested, changed).holds(), False, changed)
                some += 1
            self.assertGreater(some, 300)

    def test_terms_and_large_values(self):
        term = ("row", 0)
        for _ in range(5000):
            term = ("first", term)
        tested = claim("exact =", "h: p", "p")
        nodes = decide(tested).nodes()
        for value in (term, [term], [*nodes[:-1], term], [(*nodes[0][:3], term), *nodes[1:]]):
            self.assertIs(Steady(tested, value).holds(), False)
            self.assertIs(Breach(tested, Context(), value).holds(), False)

    def test_lists_are_copied(self):
        tested = claim("exact =", "h: p", "p")
        nodes = decide(tested).nodes()
        steady = Steady(tested, nodes)
        nodes.pop()
        self.assertIs(steady.holds(), True)
        steady.nodes().clear()
        self.assertIs(steady.holds(), True)
        inner = ["x"]
        deep = (((((((((((((inner, 1),),),),),),),),),),),),)
        for value in ([("end", inner, deep)], (deep, [inner])):
            for verdict in (Steady(tested, value), Breach(tested, Context(), value)):
                told = repr(value)
                seen = verdict.nodes if verdict else verdict.places
                inner.append("y")
                self.assertEqual(repr(seen()), told)
                found = seen()
                while not isinstance(found, list) or found[0] != "x":
                    found = found[-1] if isinstance(found, list) or found[-1] != 1 else found[0]
                found.append("z")
                self.assertEqual(repr(seen()), told)
                inner.pop()
        places = [0]
        breach = Breach(claim("exact h", "h: p", "p"), Context.read("h: p\nh: q"), places)
        places.append(1)
        self.assertIs(breach.holds(), True)
        breach.places().append(1)
        self.assertIs(breach.holds(), True)

    def test_verdicts_do_not_change_their_claims(self):
        facts = {"f": P}
        tested = claim("recall f\nexact #1", "h: p", "p", facts)
        one = decide(tested)
        facts["f"] = Q
        self.assertEqual(decide(tested).told(), one.told())
        self.assertEqual(tested, claim("recall f\nexact #1", "h: p", "p", {"f": P}))


def changes_of(value):
    """Values that are unlike a value in one place."""
    if isinstance(value, (list, tuple)):
        for at, item in enumerate(value):
            for other in changes_of(item):
                yield type(value)([*value[:at], other, *value[at + 1:]])
            yield type(value)([*value[:at], *value[at + 1:]])
        yield type(value)([*value, None])
        if isinstance(value, tuple):
            yield list(value)
    elif isinstance(value, str):
        yield from (value + "x", None)
    elif isinstance(value, int):
        yield from (value + 1, -1, bool(value), str(value))
    else:
        yield from ("x", 0, False)


class WordsTest(unittest.TestCase):
    def test_new_words(self):
        self.assertEqual(new_words(3, ["a", "c"]), ["b", "d", "e"])
        found = new_words(800, ["aa"])
        self.assertEqual((len(set(found)), found[25:28], found[-1]), (800, ["z", "ab", "ac"], "adu"))

    def test_new_words_are_no_words_of_the_claim(self):
        drops = "first\ndrop #2\nabsurd\nelse\n"
        for word in "abcdefgh":
            for parts in (
                    (f"first\ndrop {word}\nexact =\nelse\nexact #1\nend", "x: p", "p"),
                    ("intro x\nfirst\nexact #2\nelse\n" + drops + "exact x\nend\nend", "", f"({word} > {word})"),
                    ("recall x\napply x\nfirst\nexact #2\nelse\n" + drops + "recall y\nexact y\nend\nend", "", "p",
                     {"x": ("then", atom(word), P), "y": atom(word)})):
                verdict = decide(claim(*parts))
                self.assertEqual((verdict.told(), verdict.holds()), ("breach 1", True))

    def test_contexts_of_breaches_have_new_words(self):
        # The names a to d are used, so that no row has one of them by chance.
        tested = claim("first\nexact a\nelse\nfirst\nexact b\nelse\nexact [c]\nend\nend", "d: c", "c")
        verdict = decide(tested)
        self.assertEqual((verdict.told(), verdict.holds()), ("steady", True))
        tested = claim("drop #2\nexact #1", "d: c", "c")
        verdict = decide(tested)
        self.assertEqual(verdict.told(), "breach 0")
        tested = claim("try\ndrop #2\nend\nexact #1", "d: c", "c")
        verdict = decide(tested)
        self.assertEqual(verdict.told(), "breach 1")
        self.assertEqual(added_in((tuple(("new", *row) for row in verdict.wider.rows()), ())), 2)
        self.assertEqual(len(set(verdict.wider.words()) & {"c", "d"}), 2)
        self.assertEqual(len(verdict.wider.words()), 4)


if __name__ == "__main__":
    unittest.main()
