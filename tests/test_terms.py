"""Point 11 and the formula that an entry states: terms, and what they show."""

import unittest
from random import Random

from addedgrounds.contexts import Context, KnownRows
from addedgrounds.formulas import chained, read_formula
from addedgrounds.scripts import Script
from addedgrounds.sessions import Session, run
from addedgrounds.terms import is_derivation, statement
from tests import model
from tests.samples import FALSE, OTHER_VALUES, P, Q, R, atom, deep_list, deep_tuple, full, hole, nested, part

CONTEXT = Context.read("h: p\nk: (p > q)\nm: (p & r)\nn: (q | r)\ne: 0\nc: (p > (q > r))")
H, K, M, N, E, C = [("row", at) for at in range(6)]
FACTS = {"f": read_formula("(q > r)"), "g": read_formula("((p & q) | r)")}
LABELS = dict(enumerate(formula for name, formula in CONTEXT.rows()))


class TermsTest(unittest.TestCase):
    def right(self, term, *goals):
        """A term shows these formulas, and none of some others."""
        for goal in ("p", "q", "r", "0", "(p > q)", "(p & r)", "(q | r)", "(q > r)", "(p > (q > r))", "((p & q) | r)"):
            for facts in (FACTS, {**FACTS, "x": P}):
                told = is_derivation(term, CONTEXT, read_formula(goal), facts=facts)
                self.assertIs(told, goal in goals, (term, goal))
        for goal in goals:
            self.assertIs(is_derivation(term, CONTEXT, read_formula(goal), facts=FACTS), True)

    def wrong(self, term, goal="p", context=CONTEXT):
        self.assertIs(is_derivation(term, context, read_formula(goal), facts=FACTS), False)

    def test_rows(self):
        self.right(H, "p")
        self.right(K, "(p > q)")
        self.right(M, "(p & r)")
        self.right(C, "(p > (q > r))")
        self.right(("row", 6))
        self.right(("row", -1))
        self.wrong(("row", 0), "p", Context())

    def test_facts(self):
        self.right(("fact", "f"), "(q > r)")
        self.right(("fact", "g"), "((p & q) | r)")
        self.right(("fact", "h"))
        self.right(("fact", ""))
        self.assertIs(is_derivation(("fact", "f"), CONTEXT, FACTS["f"]), False)
        self.assertIs(is_derivation(("fact", "f"), CONTEXT, FACTS["f"], facts={}), False)
        self.assertIs(is_derivation(("fact", "f"), CONTEXT, FACTS["f"], facts=None), False)
        self.assertIs(is_derivation(term=H, context=CONTEXT, goal=P), True)

    def test_calls(self):
        self.right(("call", K, H), "q")
        self.right(("call", ("call", C, H), ("call", K, H)), "r")
        self.right(("call", ("fact", "f"), ("call", K, H)), "r")
        self.right(("call", C, H), "(q > r)")
        for term in (("call", K, K), ("call", H, H), ("call", M, H), ("call", N, H), ("call", K, ("call", K, H)),
                     ("call", ("call", C, H), H), ("call", ("fun", 9, H), H), ("call", ("never", E), H),
                     ("call", ("let", 9, P, H, K), H)):
            self.right(term)

    def test_sides(self):
        self.right(("first", M), "p")
        self.right(("second", M), "r")
        self.right(("call", K, ("first", M)), "q")
        for term in (("first", H), ("second", K), ("first", N), ("first", E), ("second", ("first", M)),
                     ("first", ("pair", H, H)), ("second", ("pair", H, H))):
            self.right(term)
        context = Context.read("h: ((p > (q & r)) & p)")
        self.assertIs(is_derivation(("second", ("call", ("first", H), ("second", H))), context, R), True)
        self.assertIs(is_derivation(("second", ("call", ("first", H), ("first", H))), context, R), False)

    def test_functions(self):
        self.right(("fun", 9, ("call", K, ("row", 9))), "(p > q)")
        self.right(("fun", 9, H), )
        for goal in ("(p > p)", "(q > p)", "((p > q) > p)"):
            self.assertIs(is_derivation(("fun", 9, H), CONTEXT, read_formula(goal)), True)
        self.assertIs(is_derivation(("fun", 9, ("row", 9)), CONTEXT, read_formula("(q > q)")), True)
        self.assertIs(is_derivation(("fun", 9, ("row", 9)), CONTEXT, read_formula("(q > r)")), False)
        self.assertIs(is_derivation(("fun", 9, ("row", 8)), CONTEXT, read_formula("(q > q)")), False)
        for goal in ("(p & q)", "(p | p)", "p"):
            self.assertIs(is_derivation(("fun", 9, H), CONTEXT, read_formula(goal)), False)

    def test_pairs_and_choices(self):
        self.right(("pair", H, ("second", M)), "(p & r)")
        for goal in ("(p > r)", "(p | r)", "(r & p)", "(p & p)", "(r & r)"):
            self.wrong(("pair", H, ("second", M)), goal)
        self.right(("left", ("call", K, H)), "(q | r)")
        self.right(("right", ("second", M)), "(q | r)", "((p & q) | r)")
        self.right(("left", ("second", M)))
        self.right(("right", ("call", K, H)))
        self.assertIs(is_derivation(("left", H), CONTEXT, read_formula("(p | p)")), True)
        for goal in ("(p & p)", "(p > p)", "p"):
            self.wrong(("left", H), goal)
            self.wrong(("right", H), goal)

    def test_never(self):
        for term in (("never", E), ("never", ("never", E)), ("never", ("let", 9, P, H, E))):
            for goal in ("p", "q", "0", "(p > q)", "(s & t)"):
                self.assertIs(is_derivation(term, CONTEXT, read_formula(goal)), True)
        for term in (("never", H), ("never", ("call", K, H)), ("never", ("row", 9))):
            self.right(term)

    def test_either(self):
        term = ("either", N, 8, ("call", ("fact", "f"), ("row", 8)), 9, ("row", 9))
        self.right(term, "r")
        self.right(("either", N, 8, ("left", ("row", 8)), 9, ("right", ("row", 9))), "(q | r)")
        self.right(("either", N, 8, ("left", ("row", 8)), 8, ("right", ("row", 8))), "(q | r)")
        self.right(("either", ("fact", "g"), 7, ("first", ("row", 7)), 7, H), "p")
        self.right(("either", N, 8, H, 9, H), "p")
        for wrong in (("either", N, 8, ("row", 8), 9, ("row", 9)), ("either", H, 8, H, 9, H), ("either", M, 8, H, 9, H),
                      ("either", N, 8, ("row", 9), 9, ("row", 9)), ("either", N, 8, ("row", 8), 9, ("row", 8)),
                      ("either", ("left", ("row", 9)), 8, H, 9, H), ("either", ("either", N, 8, N, 9, N), 8, H, 9, H),
                      ("either", ("row", 8), 8, H, 9, H)):
            self.right(wrong)

    def test_let(self):
        self.right(("let", 9, Q, ("call", K, H), ("row", 9)), "q")
        self.right(("let", 9, Q, ("call", K, H), ("call", ("fact", "f"), ("row", 9))), "r")
        self.right(("let", 9, ("then", P, R), ("fun", 8, ("call", ("call", C, ("row", 8)), ("call", K, ("row", 8)))),
                    ("call", ("row", 9), H)), "r")
        for wrong in (("let", 9, Q, H, ("row", 9)), ("let", 9, Q, ("row", 9), ("row", 9)), ("let", 9, P, ("call", K, H), H),
                      ("let", 9, "q", ("call", K, H), H), ("let", 9, ("hole", "a"), ("call", K, H), H),
                      ("let", 9, None, H, H), ("let", 9, ["false"], E, H), ("let", 9, ("part", 0), H, H)):
            self.right(wrong)

    def test_formulas_of_let(self):
        for depth in (1, 2, 10, 11, 89, 90, 91, 92, 200):
            formula = nested(depth, P, "and")
            context = Context(KnownRows([("h", formula)]))
            for term in (("let", 5, formula, H, ("row", 5)), ("let", 5, formula, H, H)):
                self.assertIs(is_derivation(("let", 5, formula, H, ("fun", 7, ("row", 7))), context, ("then", P, P)), depth <= 90)
        deep = nested(90, hole("a"), "and")
        self.assertIs(is_derivation(("let", 5, deep, ("row", 0), ("row", 1)), Context.of(("h", P), ("k", P)), P), False)

    def test_hidden_labels(self):
        self.assertIs(is_derivation(("fun", 0, H), CONTEXT, read_formula("(q > q)")), True)
        self.assertIs(is_derivation(("fun", 0, H), CONTEXT, read_formula("(q > p)")), False)
        self.assertIs(is_derivation(("fun", 0, ("fun", 0, H)), CONTEXT, read_formula("(q > (r > r))")), True)
        self.assertIs(is_derivation(("fun", 0, ("fun", 0, H)), CONTEXT, read_formula("(q > (r > q))")), False)
        self.right(("let", 0, Q, ("call", K, H), H), "q")
        self.right(("either", N, 0, ("left", H), 0, ("right", H)), "(q | r)")
        self.right(("let", 1, P, ("let", 0, Q, ("call", K, H), ("first", M)), ("call", K, H)))
        self.right(("let", 9, P, ("let", 0, Q, ("call", K, H), ("first", M)), ("call", K, H)), "q")

    def test_labels_are_free_again_behind_their_terms(self):
        self.assertIs(is_derivation(("pair", ("fun", 9, ("row", 9)), ("row", 9)), CONTEXT, read_formula("((p > p) & p)")), False)
        self.assertIs(is_derivation(("pair", ("row", 9), ("fun", 9, ("row", 9))), CONTEXT, read_formula("(p & (p > p))")), False)
        self.assertIs(is_derivation(("pair", ("fun", 0, H), H), CONTEXT, read_formula("((q > q) & p)")), True)
        self.assertIs(is_derivation(("pair", H, ("fun", 0, H)), CONTEXT, read_formula("(p & (q > q))")), True)
        self.wrong(("let", 9, P, ("let", 8, P, H, ("row", 8)), ("row", 8)))
        self.wrong(("either", N, 8, H, 9, ("let", 7, Q, ("row", 8), H)))
        self.wrong(("call", ("row", 9), ("let", 9, K, K, K)))

    def test_labels_are_numbers(self):
        for label in (-1, -100, 10 ** 11, 999999999999, 0, 1):
            self.assertIs(is_derivation(("fun", label, ("row", label)), CONTEXT, ("then", R, R)), True)
        for label in (True, False, None, "0", "", "a", (), [], (0,), [0], ("row", 0), P):
            self.assertIs(is_derivation(("row", label), CONTEXT, P), False)
            self.assertIs(is_derivation(("row", label), CONTEXT, LABELS[1]), False)
            self.assertIs(is_derivation(("fun", label, ("call", K, H)), CONTEXT, ("then", R, Q)), False)
            self.assertIs(is_derivation(("fun", label, ("row", label)), CONTEXT, ("then", R, R)), False)
            self.wrong(("let", label, P, H, H))
            self.wrong(("either", N, label, H, 9, H))
            self.wrong(("either", N, 9, H, label, H))

    def test_any_values(self):
        values = OTHER_VALUES + [deep_list(12), deep_tuple(12), Context(), {}, "row", P, hole("a"), nested(12)]
        for value in values:
            for goal in (P, Q, FALSE, LABELS[1], LABELS[2], LABELS[3]):
                self.assertIs(is_derivation(value, CONTEXT, goal, facts=FACTS), False)
        for value in values:
            self.wrong(("call", value, H), "q")
            self.wrong(("call", K, value), "q")
            self.wrong(("first", value))
            self.wrong(("second", value))
            self.wrong(("fun", 9, value), "(p > p)")
            self.wrong(("pair", value, H), "(p & p)")
            self.wrong(("pair", H, value), "(p & p)")
            self.wrong(("left", value), "(p | p)")
            self.wrong(("right", value), "(p | p)")
            self.wrong(("never", value))
            self.wrong(("either", value, 8, H, 9, H))
            self.wrong(("either", N, 8, value, 9, H))
            self.wrong(("either", N, 8, H, 9, value))
            self.wrong(("let", 9, P, value, H))
            self.wrong(("let", 9, P, H, value))
            if value not in (P, nested(12), ("false",)):
                self.wrong(("let", 9, value, H, H))
                self.wrong(("let", 9, value, ("never", E), H))
            if value not in ("f", "g"):
                self.wrong(("fact", value))

    def test_wrong_numbers_of_items(self):
        terms = [(H, P), (("fact", "f"), FACTS["f"]), (("call", K, H), Q), (("first", M), P), (("second", M), R),
                 (("fun", 9, H), ("then", P, P)), (("pair", H, H), ("and", P, P)), (("left", H), ("or", P, P)),
                 (("right", H), ("or", P, P)), (("never", E), P), (("either", N, 8, H, 9, H), P), (("let", 9, P, H, H), P)]
        for term, goal in terms:
            self.assertIs(is_derivation(term, CONTEXT, goal, facts=FACTS), True)
            for value in (0, None, H, 9, "f"):
                self.assertIs(is_derivation(term + (value,), CONTEXT, goal, facts=FACTS), False)
            for many in range(len(term)):
                self.assertIs(is_derivation(term[:many], CONTEXT, goal, facts=FACTS), False)
            self.assertIs(is_derivation(list(term), CONTEXT, goal, facts=FACTS), False)
            for word in ("Row", "", "then", "atom", "roww", None, 0, ("row",), ["row"], True):
                self.assertIs(is_derivation((word,) + term[1:], CONTEXT, goal, facts=FACTS), False)

    def test_nothing_is_changed(self):
        facts = dict(FACTS)
        for term in (H, ("fun", 0, H), ("let", 0, Q, ("call", K, H), H), ("fact", "f")):
            is_derivation(term, CONTEXT, P, facts=facts)
        self.assertEqual(facts, FACTS)
        self.assertEqual(len(CONTEXT), 6)


def parts_of(term):
    """The list of the paths in a term, as tuples of indexes."""
    found = [()]
    for at, item in enumerate(term):
        if isinstance(item, tuple):
            found += [(at,) + path for path in parts_of(item)]
        else:
            found.append((at,))
    return found


def part_at(term, path):
    for at in path:
        term = term[at]
    return term


def exchanged(term, path, value):
    """A term with a value in place of a part."""
    if not path:
        return value
    return term[:path[0]] + (exchanged(term[path[0]], path[1:], value),) + term[path[0] + 1:]


def has_form(term):
    """Whether a value has the form of a term."""
    if not isinstance(term, tuple) or not term or not isinstance(term[0], str):
        return False
    forms = {"row": "k", "fact": "x", "call": "tt", "first": "t", "second": "t", "fun": "kt", "pair": "tt", "left": "t",
             "right": "t", "never": "t", "either": "tktkt", "let": "kFtt"}
    form = forms.get(term[0])
    if form is None or len(term) != len(form) + 1:
        return False
    tests = {"k": lambda value: type(value) is int, "x": lambda value: isinstance(value, str), "t": has_form,
             "F": lambda value: is_plain(value, 90)}
    return all(tests[kind](item) for kind, item in zip(form, term[1:]))


def is_plain(value, depth):
    if not isinstance(value, tuple) or not value or depth == 0:
        return False
    if value == ("false",) or len(value) == 2 and value[0] == "atom" and isinstance(value[1], str):
        return True
    return len(value) == 3 and value[0] in ("then", "and", "or") and all(is_plain(side, depth - 1) for side in value[1:])


class ReturnedTermsTest(unittest.TestCase):
    def test_terms_with_exchanged_parts(self):
        tally = {True: 0, False: 0}
        for seed in range(400):
            random = Random(seed)
            rows = [(random.choice("hk"), model.random_formula(random, 3)) for _ in range(4)]
            goal = model.random_formula(random, 3)
            commands = model.guided_commands(random, rows, goal, FACTS, 16)
            found = run(Script(commands), Context(rows), goal, facts=FACTS)
            if not found:
                continue
            labels = {at: row[1] for at, row in enumerate(rows)}
            self.assertTrue(is_derivation(found.term, Context(rows), goal, facts=FACTS))
            paths = parts_of(found.term)
            for _ in range(40):
                value = random.choice([part_at(found.term, random.choice(paths)), random.randint(0, 8), None, True, ["row", 0],
                                       ("row", random.randint(0, 5)), P])
                term = exchanged(found.term, random.choice(paths), value)
                expected = has_form(term) and model.shows(term, goal, labels, FACTS)
                self.assertIs(is_derivation(term, Context(rows), goal, facts=FACTS), expected, (seed, term))
                tally[expected] += 1
        self.assertGreater(tally[True], 100)
        self.assertGreater(tally[False], 1000)

    def test_terms_in_other_contexts(self):
        context = Context.read("h: p\nk: (p > q)")
        term = run(Script.read("apply k\nexact h"), context, Q).term
        self.assertIs(is_derivation(term, context, Q), True)
        self.assertIs(is_derivation(term, context.with_row(2, "x", R), Q), True)
        self.assertIs(is_derivation(term, context.with_row(0, "x", R), Q), False)
        self.assertIs(is_derivation(term, context, P), False)
        self.assertIs(is_derivation(term, context.without(0), Q), False)

    def test_long_terms(self):
        context = Context.read("e: 0\nk: (p > p)\nm: (p | p)\nh: p")
        for lines in (("use k #1 h", "drop @4"), ("apply k",), ("have h p", "exact h"), ("absurd",), ("open m h h", "exact h")):
            session = Session(context, P)
            commands = [Script.read(line).commands()[0] for line in lines]
            for _ in range(2000):
                session.do(*commands)
            session.tell("exact e" if lines == ("absurd",) else "exact h")
            term = session.derivation()
            self.assertIs(is_derivation(term, context, P), True)
            self.assertIs(is_derivation(term, context, Q), lines == ("absurd",))
            self.assertIs(is_derivation(("pair", term, term), context, ("and", P, P)), True)
            self.assertIs(is_derivation(("fun", 0, term), context, ("then", Q, P)), lines != ("absurd",))

    def test_a_row_that_is_used_again_and_again(self):
        context = Context.read("h: p\nk: (p > (p > p))")
        script = Script.read("repeat 3\nrepeat 3\nuse k h x\nuse x h h\nuse k h x\nuse x h h\nend\nend\nexact h")
        found = run(script, context, P)
        self.assertIs(is_derivation(found.term, context, P), True)
        self.assertLess(len(str(found.term)), 10000)
        self.assertEqual(found, run(script, context, P))


class StatementTest(unittest.TestCase):
    def test_statement(self):
        self.assertEqual(statement(Context(), P), P)
        self.assertEqual(statement(Context.read("h: p"), Q), read_formula("(p > q)"))
        self.assertEqual(statement(Context.read("h: p\nk: q\nh: (p & r)"), R), read_formula("(p > (q > ((p & r) > r)))"))
        self.assertEqual(statement(context=Context.read("h: 0"), goal=FALSE), ("then", FALSE, FALSE))

    def test_deep_statements(self):
        context = Context([("h", nested(10))] * 40)
        self.assertEqual(statement(context, nested(10)), chained([nested(10)] * 40, nested(10)))
        deep = Context(KnownRows([("h", nested(30)), ("k", full(12))]))
        self.assertEqual(statement(deep, P), ("then", nested(30), ("then", full(12), P)))

    def test_what_a_script_shows_in_a_context_is_stated(self):
        context, goal = Context.read("h: p\nk: (p > q)"), Q
        term = run(Script.read("apply k\nexact h"), context, goal).term
        facts = {"f": statement(context, goal)}
        self.assertIs(is_derivation(("call", ("call", ("fact", "f"), H), K), context, goal, facts=facts), True)
        self.assertIs(is_derivation(("fun", 0, ("fun", 1, term)), Context(), facts["f"]), True)
        self.assertIs(is_derivation(("fun", 1, ("fun", 0, term)), Context(), facts["f"]), False)
        self.assertIs(is_derivation(term, Context.of(("h", P), ("k", atom("q"))), goal), False)
        self.assertIs(is_derivation(("let", 0, part(0), H, H), context, goal), False)


if __name__ == "__main__":
    unittest.main()
