"""Points 6 to 8 and 10: what references find, what commands do, why they refuse, and how runs end."""

import unittest

from addedgrounds.contexts import Context, KnownRows
from addedgrounds.errors import InvalidFormula
from addedgrounds.formulas import chained, read_formula
from addedgrounds.scripts import Script
from addedgrounds.sessions import Open, Outcome, Shown, Stopped, run
from addedgrounds.terms import is_derivation
from tests.samples import FALSE, OTHER_VALUES, P, Q, R, atom, deep_list, deep_tuple, full, hole, nested, part

FACTS = {"fact": ("then", P, Q), "other": FALSE}


def goal_of(rows, target):
    """A goal with the rows of a text like "h: p, k: q"."""
    return tuple(Context.read(rows.replace(", ", "\n")).rows()), read_formula(target)


class RunTest(unittest.TestCase):
    def outcome(self, script, rows, target, facts=None):
        context = Context.read(rows.replace(", ", "\n"))
        goal = read_formula(target)
        found = run(Script.read(script.replace("; ", "\n")), context, goal, facts=FACTS if facts is None else facts)
        self.assertEqual(found, run(Script.read(script.replace("; ", "\n")), context, goal, facts=FACTS))
        if isinstance(found, Shown):
            self.assertTrue(is_derivation(found.term, context, goal, facts=FACTS))
        return found

    def shown(self, script, rows, target):
        found = self.outcome(script, rows, target)
        self.assertIsInstance(found, Shown, f"{script}: {found}")

    def left(self, script, rows, target, *goals):
        found = self.outcome(script, rows, target)
        self.assertIsInstance(found, Open, f"{script}: {found}")
        self.assertEqual(found.goals(), [goal_of(*goal) for goal in goals])
        self.assertEqual(found.told(), f"open {len(goals)}")

    def stopped(self, script, rows, target, path, reason):
        found = self.outcome(script, rows, target)
        self.assertIsInstance(found, Stopped, f"{script}: {found}")
        self.assertEqual((found.place, found.cause), (path, reason))
        self.assertEqual(found.told(), f"stopped {reason}")


class ReferencesTest(RunTest):
    ROWS = "h: p, k: (p > q), h: (r > q), m: (p & r), z: p, n: (q | p)"

    def dropped(self, reference, at, rows=ROWS, target="q"):
        """A reference finds the row at a place."""
        some = rows.split(", ")
        rest = some[:at] + some[at + 1:]
        self.left(f"drop {reference}", rows, target, (", ".join(rest), target))
        self.left(f"move {reference}", rows, target, (", ".join(rest + [some[at]]), target))

    def test_names(self):
        for name, at in (("h", 2), ("k", 1), ("m", 3), ("n", 5)):
            self.dropped(name, at)
        for name in ("x", "hh", "p", "q"):
            self.stopped(f"drop {name}", self.ROWS, "q", (0,), "none")
        self.stopped("drop h", "", "q", (0,), "none")

    def test_places(self):
        for place in (1, 2, 3, 4):
            self.dropped(f"#{place}", 6 - place)
            self.dropped(f"@{place}", place - 1)
            rows = self.ROWS.split(", ")
            self.dropped(f"#{place}", 0, ", ".join(rows[:place]))
            self.dropped(f"@{place}", place - 1, ", ".join(rows[:place]))
            for sign in "#@":
                self.stopped(f"drop {sign}{place}", ", ".join(rows[:place - 1]), "q", (0,), "none")

    def test_shapes(self):
        for shape, at in {"?a": 5, "p": 4, "(?a > ?b)": 2, "(p > ?b)": 1, "(?a > q)": 2, "(?a & ?b)": 3, "(?a | ?b)": 5,
                          "(?z & r)": 3, "(q | ?p)": 5}.items():
            self.dropped(f"[{shape}]", at)
        for shape in ("(?a > ?a)", "q", "0", "(?a & ?a)", "((?a > ?b) > ?c)", "(r > p)"):
            self.stopped(f"drop [{shape}]", self.ROWS, "q", (0,), "none")
        self.dropped("[(?a > ?a)]", 0, "h: ((p & q) > (p & q)), h: (p > q)")
        self.dropped("[0]", 0, "h: 0, h: p")
        self.dropped("[((?a | ?b) > ?a)]", 1, "h: ((p | q) > p), h: ((q | p) > q), h: ((p | q) > q)")

    def test_names_with_shapes(self):
        for look, at in {"h:[?a]": 2, "h:[p]": 0, "k:[(?a > ?b)]": 1, "h:[(?a > ?b)]": 2, "z:[p]": 4, "m:[(?a & r)]": 3}.items():
            self.dropped(look, at)
        for look in ("z:[q]", "x:[?a]", "k:[p]", "h:[(p > ?a)]", "n:[(?a & ?b)]"):
            self.stopped(f"drop {look}", self.ROWS, "q", (0,), "none")

    def test_the_target(self):
        self.dropped("=", 4, target="p")
        self.dropped("=", 2, target="(r > q)")
        self.dropped("=", 1, rows="h: p, h: p, h: q", target="p")
        self.stopped("drop =", self.ROWS, "q", (0,), "none")
        self.stopped("drop =", "", "q", (0,), "none")

    def test_toward_the_target(self):
        self.dropped(">", 2)
        self.dropped(">", 1, rows="h: (r > p), h: (q > p), h: (p > q), h: p", target="p")
        self.dropped(">", 0, rows="h: ((p > q) > (q & r)), h: (q & r), h: (q > r)", target="(q & r)")
        self.stopped("drop >", self.ROWS, "p", (0,), "none")
        self.stopped("drop >", "h: q, k: (q & p), m: (q | p), n: (p > (q > p))", "p", (0,), "none")

    def test_only_the_first_goal_is_looked_at(self):
        self.stopped("have x q; drop x", "h: p", "p", (1,), "none")
        self.stopped("have x q; drop =", "h: p", "p", (1,), "none")
        self.left("have x q; drop h", "h: p", "p", ("", "q"), ("h: p, x: q", "p"))
        self.left("split; drop =", "h: p, k: q", "(q & p)", ("h: p", "q"), ("h: p, k: q", "p"))


class CommandsTest(RunTest):
    def test_intro(self):
        self.left("intro x", "h: p", "(q > r)", ("h: p, x: q", "r"))
        self.left("intro h; intro h", "", "((p & q) > (q > r))", ("h: (p & q), h: q", "r"))
        for target in ("p", "0", "(p & q)", "(p | q)", "((p > q) | p)"):
            self.stopped("intro x", "h: p", target, (0,), "shape")

    def test_exact(self):
        self.shown("exact h", "h: p", "p")
        self.shown("exact h", "h: (p > q)", "(p > q)")
        self.shown("exact h", "h: 0", "0")
        self.left("split; exact h", "h: p", "(p & q)", ("h: p", "q"))
        for target in ("q", "0", "(p > p)", "(q > p)", "(p & p)"):
            self.stopped("exact h", "h: p", target, (0,), "other")
        self.stopped("exact h", "h: (q > p)", "(q > q)", (0,), "other")
        self.stopped("exact k", "h: p", "p", (0,), "none")

    def test_apply(self):
        self.left("apply h", "h: (p > q)", "q", ("h: (p > q)", "p"))
        self.left("apply h", "h: ((p & r) > (q | r))", "(q | r)", ("h: ((p & r) > (q | r))", "(p & r)"))
        for row in ("q", "(p & q)", "(p | q)", "(q > p)", "(p > (p > q))", "0"):
            self.stopped("apply h", f"h: {row}", "q", (0,), "other")
        self.stopped("apply k", "h: (p > q)", "q", (0,), "none")

    def test_open(self):
        self.left("open h x y", "h: (p & q), k: r", "r", ("h: (p & q), k: r, x: p, y: q", "r"))
        self.left("open h h h", "h: (p & q)", "r", ("h: (p & q), h: p, h: q", "r"))
        self.left("open h x y", "h: (p | q)", "r", ("h: (p | q), x: p", "r"), ("h: (p | q), y: q", "r"))
        self.left("split; open h x y", "h: (p | q)", "(p & q)", ("h: (p | q), x: p", "p"), ("h: (p | q), y: q", "p"),
                  ("h: (p | q)", "q"))
        self.shown("open h x y", "h: 0", "r")
        self.left("split; open h x y", "h: 0", "(p & q)", ("h: 0", "q"))
        for row in ("p", "(p > q)", "((p & q) > (p | q))"):
            self.stopped("open h x y", f"h: {row}", "r", (0,), "shape")
        self.stopped("open k x y", "h: (p & q)", "r", (0,), "none")

    def test_use(self):
        self.left("use h k x", "h: (p > q), k: p", "r", ("h: (p > q), k: p, x: q", "r"))
        self.left("use h k h", "h: ((p > q) > (q > q)), k: (p > q)", "r",
                  ("h: ((p > q) > (q > q)), k: (p > q), h: (q > q)", "r"))
        for row in ("p", "(p & q)", "(p | q)", "0"):
            self.stopped("use h k x", f"h: {row}, k: p", "r", (0,), "shape")
        for row in ("q", "(p > p)", "(p & p)", "0", "(p > q)"):
            self.stopped("use h k x", f"h: (p > q), k: {row}", "r", (0,), "other")
        self.stopped("use h x x", "h: (p > q), k: p", "r", (0,), "none")
        self.stopped("use x k x", "h: (p > q), k: p", "r", (0,), "none")

    def test_order_of_the_reasons_of_use(self):
        self.stopped("use x h y", "h: p", "r", (0,), "none")
        self.stopped("use h x y", "h: p", "r", (0,), "none")
        self.stopped("use h h y", "h: p", "r", (0,), "shape")
        self.stopped("use h h y", "h: (p > q)", "r", (0,), "other")

    def test_drop_and_move(self):
        self.left("drop h", "h: p, k: q, h: r", "p", ("h: p, k: q", "p"))
        self.left("drop h; drop h", "h: p, k: q, h: r", "p", ("k: q", "p"))
        self.left("drop @1", "h: p, h: p", "p", ("h: p", "p"))
        self.left("move k", "h: p, k: q, h: r", "p", ("h: p, h: r, k: q", "p"))
        self.left("move h", "h: p, k: q, h: r", "p", ("h: p, k: q, h: r", "p"))
        self.left("move @1; move @1", "h: p, k: q, h: r", "p", ("h: r, h: p, k: q", "p"))
        self.stopped("drop h; drop h", "h: p", "p", (1,), "none")
        self.stopped("move k", "h: p", "p", (0,), "none")
        self.shown("move h; exact k", "h: q, k: p", "p")
        self.shown("drop h; exact h", "h: p, h: q", "p")

    def test_split(self):
        self.left("split", "h: p", "(p & (q & r))", ("h: p", "p"), ("h: p", "(q & r)"))
        self.left("split; split", "", "((p & q) & r)", ("", "p"), ("", "q"), ("", "r"))
        for target in ("p", "0", "(p > q)", "(p | q)"):
            self.stopped("split", "h: p", target, (0,), "shape")

    def test_left_and_right(self):
        self.left("left", "h: r", "(p | q)", ("h: r", "p"))
        self.left("right", "h: r", "(p | q)", ("h: r", "q"))
        self.left("right; left", "", "(p | (q | r))", ("", "q"))
        for target in ("p", "0", "(p > q)", "(p & q)"):
            for word in ("left", "right"):
                self.stopped(word, "h: p", target, (0,), "shape")
        self.shown("left; exact h", "h: p", "(p | q)")
        self.shown("right; exact h", "h: q", "(p | q)")

    def test_absurd(self):
        for target in ("p", "0", "(p > q)"):
            self.left("absurd", "h: r", target, ("h: r", "0"))
        self.shown("absurd; exact h", "h: 0", "p")

    def test_have(self):
        self.left("have x (p > q)", "h: r", "p", ("h: r", "(p > q)"), ("h: r, x: (p > q)", "p"))
        self.left("split; have h r", "", "(p & q)", ("", "r"), ("h: r", "p"), ("", "q"))
        self.shown("have x (p & p); split; exact h; exact h; open x y z; exact z", "h: p", "p")

    def test_recall(self):
        self.left("recall fact; recall other", "h: r", "p", ("h: r, fact: (p > q), other: 0", "p"))
        self.stopped("recall none", "h: r", "p", (0,), "fact")
        self.shown("recall fact; apply fact; exact h", "h: p", "q")
        context = Context.of(("h", P))
        self.assertEqual(run(Script.read("recall fact"), context, P), Stopped((0,), "fact"))
        self.assertEqual(run(Script.read("recall fact"), context, P, facts={}).cause, "fact")
        self.assertEqual(run(Script.read("recall fact"), context, P, facts=None).cause, "fact")

    def test_all_rows_are_added_behind_all_others(self):
        self.left("intro a; recall fact; use fact a b; have c p; exact a; open h d e", "h: (p & q)", "(p > r)",
                  ("h: (p & q), a: p, fact: (p > q), b: q, c: p, d: p, e: q", "r"))

    def test_more_than_40_rows(self):
        script = Script.read("repeat 3\nrepeat 3\n" + "\n".join(["open h h k"] * 2 + ["move @1"]) + "\nend\nend")
        rows = [("h", ("and", full(9), P))] + [("x", P)] * 39
        found = run(script, Context(rows), Q)
        self.assertGreater(len(found.goals()[0][0]), 40)


class BlocksTest(RunTest):
    def test_first(self):
        self.left("first; left; else; right; end", "", "(p | q)", ("", "p"))
        self.left("first; split; else; right; end", "", "(p | q)", ("", "q"))
        self.left("first; intro x; drop k; else; intro y; end", "h: p", "(p > q)", ("h: p, y: p", "q"))
        self.left("first; drop h; have x r; drop k; else; have y r; end", "h: p", "q", ("h: p", "r"), ("h: p, y: r", "q"))
        self.left("first; else; left; end", "", "(p | q)", ("", "(p | q)"))
        self.left("first; split; else; end", "", "(p | q)", ("", "(p | q)"))
        self.stopped("first; left; split; else; right; intro x; end", "", "(p | q)", (0, 1, 1), "shape")
        self.stopped("absurd; first; drop h; else; first; split; else; drop k; end; end", "", "p", (1, 1, 0, 1, 0), "none")

    def test_try(self):
        self.left("try; left; end", "", "(p | q)", ("", "p"))
        self.left("try; left; split; end", "", "(p | q)", ("", "(p | q)"))
        self.left("try; drop h; intro x; end; drop k", "h: p, k: q", "p", ("h: p", "p"))
        self.left("try; end", "h: p", "p", ("h: p", "p"))
        self.left("try; absurd; try; intro x; end; end", "", "p", ("", "0"))

    def test_repeat(self):
        target = "(p > (q > (r > (p > s))))"
        self.left("repeat 1; intro x; end", "", target, ("x: p", "(q > (r > (p > s)))"))
        self.left("repeat 2; intro x; end", "", target, ("x: p, x: q", "(r > (p > s))"))
        self.left("repeat 3; intro x; end", "", target, ("x: p, x: q, x: r", "(p > s)"))
        self.left("repeat 3; intro x; end", "", "(p > (q > r))", ("x: p, x: q", "r"))
        self.left("repeat 3; intro x; intro y; end", "", "(p > (q > (r > s)))", ("x: p, y: q", "(r > s)"))
        self.left("repeat 3; split; end", "", "p", ("", "p"))
        self.left("repeat 2; end", "", "p", ("", "p"))
        self.left("repeat 3; repeat 3; drop #1; end; end", "a: p, b: p, c: p, d: p, e: p, f: p, g: p, h: p, i: p, j: p", "p",
                  ("a: p", "p"))
        self.left("repeat 2; drop h; move @1; drop h; end", "h: p, k: q, h: r, h: 0", "p", ("k: q, h: r", "p"))

    def test_repeat_goes_on_behind_a_closed_goal(self):
        self.left("split; repeat 2; exact =; end", "h: p", "(p & q)", ("h: p", "q"))
        self.shown("split; repeat 3; exact =; end", "h: p, k: q", "(p & q)")

    def test_all(self):
        self.left("split; all; absurd; end", "", "(p & q)", ("", "0"), ("", "0"))
        self.left("split; all; drop h; end", "h: r", "(p & q)", ("", "p"), ("", "q"))
        self.left("all; have x r; end", "", "p", ("", "r"), ("x: r", "p"))
        self.left("split; all; try; split; end; end", "", "((p & q) & r)", ("", "p"), ("", "q"), ("", "r"))
        self.left("split; all; try; split; end; end", "", "(p & (q & r))", ("", "p"), ("", "q"), ("", "r"))
        self.left("split; all; have x r; drop h; end", "h: 0", "(p & q)", ("", "r"), ("h: 0, x: r", "p"), ("", "r"),
                  ("h: 0, x: r", "q"))
        self.shown("split; all; exact =; end", "h: p, k: q", "(p & q)")
        self.left("split; all; try; exact =; end; end", "k: q", "(p & q)", ("k: q", "p"))
        self.left("split; all; end", "", "(p & q)", ("", "p"), ("", "q"))
        self.stopped("split; all; exact h; end", "h: p", "(p & q)", (1, 0, 0), "other")
        self.left("split; try; all; exact h; end; end", "h: p", "(p & q)", ("h: p", "p"), ("h: p", "q"))
        self.left("split; repeat 3; all; exact h; end; end", "h: p", "(p & q)", ("h: p", "p"), ("h: p", "q"))

    def test_all_is_done_on_each_goal_by_itself(self):
        self.stopped("split; all; exact h; exact h; end", "h: p", "(p & p)", (1, 0, 1), "empty")
        self.left("split; all; try; exact =; absurd; end; end", "h: p", "(p & q)", ("h: p", "p"), ("h: p", "q"))
        self.left("split; all; all; absurd; end; end", "", "(p & q)", ("", "0"), ("", "0"))

    def test_no_goal(self):
        self.shown("exact h; all; exact h; end", "h: p", "p")
        self.shown("exact h; try; exact h; end", "h: p", "p")
        self.shown("exact h; try; end; all; end; repeat 3; end; first; else; end", "h: p", "p")
        self.shown("exact h; repeat 3; exact h; end", "h: p", "p")
        self.shown("exact h; first; exact h; else; end", "h: p", "p")
        self.stopped("exact h; first; exact h; else; all; end; split; end", "h: p", "p", (1, 1, 1), "empty")
        self.stopped("exact h; first; else; end; absurd", "h: p", "p", (2,), "empty")
        for line in ("intro x", "exact k", "apply k", "open k x y", "use k k x", "drop k", "move k", "split", "left",
                     "right", "absurd", "have x p", "recall none"):
            self.stopped(f"exact h; {line}", "h: p", "p", (1,), "empty")
            self.stopped(f"all; exact h; {line}; end", "h: p", "p", (0, 0, 1), "empty")

    def test_what_a_block_did_before_it_refused_is_undone(self):
        rows = "h: p, k: (p > q), m: (p | q), n: (p & q)"
        for line in ("intro x", "apply k", "open m x y", "open n x y", "use k h x", "drop h", "move h", "split", "left",
                     "right", "absurd", "have x p", "recall fact", "exact h"):
            for target in ("p", "q", "(p > q)", "(p & q)", "(p | q)"):
                self.left(f"try; {line}; drop zzz; end", rows, target, (rows, target))
                self.left(f"first; {line}; drop zzz; else; end", rows, target, (rows, target))
                self.left(f"repeat 3; {line}; drop zzz; end", rows, target, (rows, target))
                self.left(f"first; all; {line}; drop zzz; end; else; end", rows, target, (rows, target))

    def test_terms_behind_refused_blocks(self):
        self.shown("try; absurd; exact h; end; exact k", "h: p, k: q", "q")
        self.shown("first; have x p; exact h; use k x y; drop z; else; apply k; exact h; end", "h: p, k: (p > q)", "q")
        self.shown("repeat 3; intro x; end; try; left; split; end; right; exact x", "", "(p > (q > (r | q)))")
        self.shown("split; try; all; exact h; end; end; exact h; first; exact h; else; exact k; end", "h: p, k: q", "(p & q)")

    def test_three_deep(self):
        self.left("all; repeat 2; intro x; end; end", "", "(p > (q > r))", ("x: p, x: q", "r"))
        self.stopped("all; first; drop h; else; drop k; end; end", "", "p", (0, 0, 0, 1, 0), "none")


class ManyGoalsTest(RunTest):
    FOUR = "have a p; have a p; have a p; "

    def have(self, goals):
        """A script that leaves so many goals."""
        return "; ".join(["have a p"] * (goals - 1))

    def test_12_and_13_goals(self):
        for goals in range(2, 13):
            self.assertEqual(self.outcome(self.have(goals), "", "q").told(), f"open {goals}")
        self.stopped(self.have(13), "", "q", (11,), "many")
        self.stopped(self.have(14), "", "q", (11,), "many")

    def test_split_and_open(self):
        rows = "m: (p | q), n: (p & q)"
        self.assertEqual(self.outcome(self.have(11) + "; drop n; open m x y", rows, "q").told(), "open 12")
        self.stopped(self.have(12) + "; drop n; open m x y", rows, "q", (12,), "many")
        self.assertEqual(self.outcome(self.have(12) + "; open n x y", rows, "q").told(), "open 12")
        pair = "; ".join(["have a (p & q)"] * 10)
        self.assertEqual(self.outcome(pair + "; split", "", "q").told(), "open 12")
        self.stopped(pair + "; have a (p & q); split", "", "q", (11,), "many")

    def test_other_reasons_go_ahead(self):
        self.stopped(self.have(12) + "; open m x y", "", "q", (11,), "none")
        self.stopped(self.have(12) + "; split", "", "q", (11,), "shape")

    def test_blocks_that_refuse(self):
        self.assertEqual(self.outcome(self.have(12) + "; try; have a p; end", "", "q").told(), "open 12")
        self.assertEqual(self.outcome(self.have(11) + "; repeat 3; have a p; end", "", "q").told(), "open 12")
        self.assertEqual(self.outcome(self.have(12) + "; first; have a p; else; end", "", "q").told(), "open 12")
        self.stopped(self.have(12) + "; first; else; end; first; drop x; else; have a p; end", "", "q", (12, 1, 0), "many")

    def test_all(self):
        three = "all; have b p; have b p; end"
        self.assertEqual(self.outcome(self.FOUR + three, "", "q").told(), "open 12")
        self.stopped(self.have(5) + "; " + three, "", "q", (4,), "many")
        self.stopped(self.have(7) + "; all; have b p; end", "", "q", (6,), "many")
        self.assertEqual(self.outcome(self.have(6) + "; all; have b p; end", "", "q").told(), "open 12")

    def test_goals_of_other_goals_do_not_count_in_a_block_of_all(self):
        haves = "repeat 3; have b p; have b p; have b p; end; have b p; have b p"
        block = haves + "; " + haves.replace("have b p", "exact h")
        self.left(f"have a p; all; {block}; end", "h: p", "q", ("h: p, b: p", "p"), ("h: p, a: p, b: p", "q"))
        many = "; ".join(["have b p"] * 11)
        self.stopped(f"have a p; all; {many}; end", "", "q", (1,), "many")
        self.stopped(f"have a p; all; {many}; have b p; end", "", "q", (1, 0, 11), "many")
        self.assertEqual(self.outcome(f"all; {many}; end", "", "q").told(), "open 12")

    def test_all_in_all(self):
        self.stopped("have a p; all; have b p; all; have c p; have c p; have c p; end; end", "", "q", (1,), "many")
        inner = "all; have b p; have b p; have b p; have b p; have b p; have b p; end"
        self.stopped(f"all; have a p; {inner}; end", "", "q", (0, 0, 1), "many")
        self.assertEqual(self.outcome(f"try; have a p; {inner}; end", "", "q").told(), "open 1")

    def test_many_goals_that_are_closed_one_by_one(self):
        found = self.outcome("repeat 3; repeat 3; have a p; exact h; end; end; exact a", "h: p", "p")
        self.assertIsInstance(found, Shown)


class OutcomesTest(unittest.TestCase):
    CONTEXT = Context.of(("h", P), ("k", ("then", P, Q)))

    def ends(self):
        texts = ("exact h", "have x p\nexact h\nexact x", "", "drop h", "have x q", "exact k", "absurd\nexact k", "drop m")
        return [run(Script.read(text), self.CONTEXT, P) for text in texts]

    def test_told(self):
        told = ["shown", "shown", "open 1", "open 1", "open 2", "stopped other", "stopped other", "stopped none"]
        self.assertEqual([end.told() for end in self.ends()], told)
        self.assertEqual([repr(end) for end in self.ends()], [f"Outcome({text})" for text in told])
        self.assertEqual([bool(end) for end in self.ends()], [text == "shown" for text in told])
        self.assertEqual([type(end) for end in self.ends()], [Shown] * 2 + [Open] * 3 + [Stopped] * 3)
        self.assertTrue(all(isinstance(end, Outcome) for end in self.ends()))

    def test_equal_ends(self):
        for at, one in enumerate(self.ends()):
            for place, other in enumerate(self.ends()):
                self.assertIs(one == other, at == place, (one, other))
                self.assertIs(one != other, at != place)
            for value in (None, "shown", "open 1", "stopped other", [], (), one.told(), 0, True, False):
                self.assertFalse(one == value)
                self.assertFalse(value == one)

    def test_equal_ends_of_other_scripts(self):
        def end(text):
            return run(Script.read(text), self.CONTEXT, P)
        self.assertEqual(end("exact h"), end("exact ="))
        self.assertEqual(end("exact k"), end("exact #1"))
        self.assertEqual(end("move h\nmove k"), end(""))
        self.assertNotEqual(end("move h"), end(""))
        self.assertEqual(end("drop m"), end("drop n"))
        self.assertNotEqual(end("drop m"), end("intro x"))
        self.assertNotEqual(end("try\nend\ndrop m"), end("drop m"))

    def test_what_an_end_has(self):
        shown, open_end, stopped = self.ends()[0], self.ends()[4], self.ends()[6]
        self.assertEqual(shown.term, ("row", 0))
        rows = tuple(self.CONTEXT.rows())
        self.assertEqual(open_end.goals(), [(rows, Q), (rows + (("x", Q),), P)])
        self.assertIsInstance(open_end.goals(), list)
        open_end.goals().clear()
        self.assertEqual(len(open_end.goals()), 2)
        self.assertEqual((stopped.place, stopped.cause), ((1,), "other"))

    def test_an_empty_script(self):
        self.assertEqual(run(Script(), Context(), P).goals(), [((), P)])
        self.assertEqual(run(script=Script(), context=Context(), goal=P, facts={"h": P}).goals(), [((), P)])
        self.assertEqual(run(Script.read("intro x\nexact x"), Context(), ("then", P, P)).told(), "shown")

    def test_goals_that_are_no_formulas(self):
        for value in OTHER_VALUES + [hole("a"), part(0), nested(11), deep_list(12), deep_tuple(12), "p", Context(), P[1], {}]:
            with self.assertRaises(InvalidFormula) as caught:
                run(Script.read("drop m"), self.CONTEXT, value)
            self.assertEqual(caught.exception.value, value)
        self.assertEqual(run(Script(), Context(), nested(10)).told(), "open 1")

    def test_deeper_formulas(self):
        deep = chained([nested(10)] * 30, P)
        self.assertEqual(run(Script.read("exact ="), Context(KnownRows([("d", deep)])), P).told(), "stopped none")
        facts = {"deep": deep, "to": ("then", deep, R), "both": ("and", deep, Q)}
        context = Context.of(("h", nested(10)))
        found = run(Script.read("recall to\napply to\nrecall deep\nexact deep"), context, R, facts=facts)
        self.assertTrue(is_derivation(found.term, context, R, facts=facts))
        found = run(Script.read("recall to\nrecall both\nopen both x y\nuse to x z\nexact z"), context, R, facts=facts)
        self.assertTrue(is_derivation(found.term, context, R, facts=facts))
        self.assertEqual(run(Script.read("recall deep"), context, P, facts=facts).goals()[0][0][1], ("deep", deep))
        script = Script.read("recall deep\nrepeat 3\nrepeat 3\n" + "use #1 h x\n" * 10 + "end\nend\nexact #1")
        found = run(script, context, P, facts=facts)
        self.assertTrue(is_derivation(found.term, context, P, facts=facts))

    def test_formulas_that_are_too_deep_for_a_let(self):
        for depth in (88, 89, 90, 91, 92, 150):
            deep = chained([Q] * (depth - 1), P)
            facts = {"to": ("then", Q, deep), "from": ("then", deep, ("and", deep, P))}
            context = Context.of(("h", Q))
            script = Script.read("recall to\nrecall from\nuse to h x\nuse from x y\nopen y x z\nuse from x y\n"
                                 "open #1 x z\nexact z")
            found = run(script, context, P, facts=facts)
            self.assertTrue(is_derivation(found.term, context, P, facts=facts))


if __name__ == "__main__":
    unittest.main()
