"""Point 19: shelves, their deeds and steps, and the verdicts that they keep."""

import unittest
from random import Random

from addedgrounds.contexts import Context
from addedgrounds.errors import (
    Circular, Full, GroundError, InvalidDeed, InvalidName, InvalidNumber, Missing, NameInUse, NothingLeft, TooLarge,
    TooMany, UnknownName)
from addedgrounds.formulas import read_formula
from addedgrounds.scripts import Script
from addedgrounds.shelf import Shelf
from addedgrounds.steady import Claim, decide
from tests.claims import LIMITS, sized
from tests.samples import OTHER_VALUES, P, Q, R, hole, nested

NONE = Context()
EXACT = Script.read("exact =")


def recalls(*names):
    """A script that recalls some names."""
    return Script([("recall", name) for name in names])


def fact(name, script=EXACT, context=NONE, goal=P):
    return ("fact", name, context, goal, script)


def state(shelf):
    """All that a shelf tells of itself."""
    entries = [(name, shelf.claim_of(name), shelf.statement(name)) for name in shelf.names()]
    return (entries, shelf.history(), shelf.kept(), shelf.computed, shelf.limit, shelf.busy, len(shelf), repr(shelf))


def steps_of(shelf):
    """The entries of a shelf behind each of its steps, and at the beginning, the last step first."""
    twin = shelf.twin()
    found = [twin.names()]
    while twin.history()[1]:
        twin.redo()
        found.insert(0, twin.names())
    twin = shelf.twin()
    while twin.history()[0]:
        twin.undo()
        found.append(twin.names())
    return found


class ShelfTest(unittest.TestCase):
    def refused(self, shelf, error, *deeds):
        """The error of a step, which changes nothing."""
        before = state(shelf), steps_of(shelf)
        with self.assertRaises(error) as caught:
            shelf.apply(*deeds)
        self.assertEqual((state(shelf), steps_of(shelf)), before)
        return caught.exception

    def filled(self):
        """A shelf with a chain of entries: c recalls b, which recalls a; d recalls a and c."""
        shelf = Shelf()
        shelf.apply(fact("a", context=Context.read("h: p")))
        shelf.apply(fact("b", recalls("a")), fact("c", recalls("b")))
        shelf.apply(fact("d", Script([("try", [("recall", "c")]), ("recall", "a")])))
        return shelf


class EntriesTest(ShelfTest):
    def test_a_new_shelf(self):
        shelf = Shelf()
        self.assertEqual(state(shelf), ([], (0, 0), [], 0, 12, False, 0, "Shelf(0 entries)"))
        self.assertIs(shelf.busy, False)
        self.assertEqual(Shelf.MOST, 20)
        self.assertEqual([Shelf(limit=limit).limit for limit in (1, 12, 20)], [1, 12, 20])

    def test_limits(self):
        for value in [0, 21, -1, True, False, None, "1", (), [], 999999999999]:
            with self.assertRaises(InvalidNumber) as caught:
                Shelf(limit=value)
            self.assertEqual(repr(caught.exception.value), repr(value))

    def test_facts(self):
        shelf = Shelf()
        context, goal, script = Context.read("h: p\nk: (p > q)"), Q, Script.read("apply >\nexact =")
        self.assertIsNone(shelf.apply(("fact", "one", context, goal, script)))
        self.assertEqual(shelf.names(), ["one"])
        self.assertEqual(shelf.claim_of("one"), Claim(script, context, goal))
        self.assertEqual(shelf.statement("one"), read_formula("(p > ((p > q) > q))"))
        self.assertEqual((shelf.users("one"), shelf.rests("one")), ([], []))
        self.assertEqual((len(shelf), repr(shelf), shelf.history()), (1, "Shelf(1 entries)", (1, 0)))

    def test_order(self):
        shelf = self.filled()
        self.assertEqual(shelf.names(), ["a", "b", "c", "d"])
        shelf.apply(fact("b", recalls("a"), goal=Q))
        self.assertEqual(shelf.names(), ["a", "b", "c", "d"])
        shelf.apply(("drop", "d"), fact("aa"), fact("d"))
        self.assertEqual(shelf.names(), ["a", "b", "c", "aa", "d"])
        shelf.names().append("x")
        self.assertEqual(len(shelf.names()), 5)

    def test_what_entries_rest_on(self):
        shelf = self.filled()
        self.assertEqual([shelf.users(name) for name in "abcd"], [["b", "d"], ["c"], ["d"], []])
        self.assertEqual([shelf.rests(name) for name in "abcd"], [[], ["a"], ["a", "b"], ["a", "b", "c"]])
        self.assertEqual(shelf.claim_of("d").facts(), {"a": shelf.statement("a"), "c": P})
        self.assertEqual(shelf.claim_of("c").facts(), {"b": P})
        self.assertEqual(shelf.statement("a"), ("then", P, P))

    def test_lists_are_new(self):
        shelf = self.filled()
        shelf.verdict("a")
        for call in (shelf.names, shelf.kept, lambda: shelf.users("a"), lambda: shelf.rests("d"),
                     lambda: shelf.claim_of("d").facts()):
            before = repr(call())
            call().clear()
            self.assertEqual(repr(call()), before)
        context, script = Context.read("h: p"), recalls("a")
        shelf.apply(fact("e", script, context))
        self.assertEqual((context, script), (Context.read("h: p"), recalls("a")))

    def test_scripts(self):
        shelf = self.filled()
        shelf.apply(("script", "c", recalls("a")))
        self.assertEqual((shelf.rests("c"), shelf.users("b"), shelf.names()), (["a"], [], ["a", "b", "c", "d"]))
        self.assertEqual(shelf.claim_of("c"), Claim(recalls("a"), NONE, P, facts={"a": ("then", P, P)}))

    def test_contains(self):
        shelf = self.filled()
        self.assertTrue("a" in shelf and "d" in shelf)
        for value in OTHER_VALUES + ["e", "A", "aa", "", 0, None, [], {}, ["a"], ("a",)]:
            self.assertIs(value in shelf, False)

    def test_unknown_names(self):
        shelf = self.filled()
        before = state(shelf)
        for value in OTHER_VALUES + ["e", "", "A", ["a"], ("a",)]:
            for call in (shelf.claim_of, shelf.statement, shelf.users, shelf.rests, shelf.verdict, shelf.is_sound):
                with self.assertRaises(UnknownName) as caught:
                    call(value)
                self.assertEqual(repr(caught.exception.value), repr(value))
        self.assertEqual(state(shelf), before)
        self.assertEqual(shelf.claim_of(name="a"), shelf.claim_of("a"))

    def test_equal_shelves(self):
        one, other = self.filled(), Shelf(limit=20)
        self.assertNotEqual(one, other)
        other.apply(fact("a", context=Context.read("h: p")), fact("b", recalls("a")), fact("c", recalls("b")))
        self.assertNotEqual(one, other)
        other.apply(fact("d", Script([("try", [("recall", "c")]), ("recall", "a")])))
        other.verdict("a")
        self.assertEqual(one, other)
        other.apply(("script", "d", EXACT))
        self.assertNotEqual(one, other)
        one, other = Shelf(), Shelf()
        one.apply(fact("a"), fact("b"))
        other.apply(fact("b"), fact("a"))
        self.assertNotEqual(one, other)
        other.apply(("drop", "b"), fact("b"))
        self.assertEqual(one, other)
        other.apply(fact("b", context=Context.read("h: p")))
        self.assertNotEqual(one, other)
        for value in (None, 0, [], "Shelf", {}):
            self.assertNotEqual(one, value)


class DeedsTest(ShelfTest):
    def test_values_that_are_no_deeds(self):
        good = [fact("x"), ("script", "a", EXACT), ("drop", "d")]
        wrong = OTHER_VALUES + [
            list(good[0]), ("fact",), ("fact", "x"), good[0][:4], good[0] + (1,), ("fact", "x", NONE, P, "exact ="),
            ("fact", "x", NONE, P, ("exact",)), ("fact", "x", NONE, nested(11), EXACT), ("fact", "x", NONE, "p", EXACT),
            ("fact", "x", NONE, hole("a"), EXACT), ("fact", "x", [], P, EXACT), ("fact", "x", (), P, EXACT),
            ("fact", "x", "", P, EXACT), ("fact", "x", EXACT, P, NONE), ("fact", "x", NONE, NONE, EXACT),
            ("script",), ("script", "a"), ("script", "a", NONE), ("script", "a", "exact ="), ("script", "a", EXACT, 1),
            ("script", "a", [("exact", ("goal",))]), ("drop",), ("drop", "d", "d"), ("Fact", *good[0][1:]),
            ("undo",), (["fact"], "x", NONE, P, EXACT), (("drop",), "d"), (0, "d"), (None, "d"), "drop"]
        shelf = self.filled()
        for value in wrong:
            self.assertEqual(self.refused(shelf, InvalidDeed, value).at, 0)
            # Deeds that would raise other errors stand ahead of it.
            self.assertEqual(self.refused(shelf, InvalidDeed, ("drop", "none"), fact(5), value).at, 2)
            self.assertEqual(self.refused(shelf, InvalidDeed, *good, value, value).at, 3)

    def test_names_may_be_any_values(self):
        shelf = self.filled()
        for value in OTHER_VALUES + [["a"], ("a",), "A", "", "abcdefg"]:
            self.assertEqual(repr(self.refused(shelf, InvalidName, fact(value)).value), repr(value))
            self.assertEqual(repr(self.refused(shelf, UnknownName, ("script", value, EXACT)).value), repr(value))
            self.assertEqual(repr(self.refused(shelf, UnknownName, ("drop", value)).value), repr(value))

    def test_errors_of_facts_in_order(self):
        shelf = Shelf(limit=1)
        shelf.apply(fact("a"))
        rows = Context([("h", P)] * 9)
        self.assertEqual(self.refused(shelf, InvalidName, fact(1, recalls("x", "y"), rows)).value, 1)
        self.assertEqual(self.refused(shelf, TooMany, fact("b", recalls("x", "y"), rows)).most, 8)
        self.assertEqual(self.refused(shelf, TooMany, fact("a", recalls("x", "a"), rows)).most, 8)
        self.assertEqual(self.refused(shelf, Full, fact("b", recalls("x", "y"))).most, 1)
        self.assertEqual(self.refused(shelf, Full, fact("b", recalls("b"))).most, 1)
        self.assertEqual(self.refused(shelf, UnknownName, fact("a", recalls("a", "y", "x"))).value, "y")
        self.assertEqual(self.refused(shelf, Circular, fact("a", recalls("a"))).name, "a")
        shelf.limit = 2
        self.assertEqual(self.refused(shelf, UnknownName, fact("b", recalls("a", "b", "c"))).value, "c")
        self.assertEqual(self.refused(shelf, Circular, fact("b", recalls("a", "b"))).name, "b")
        shelf.apply(fact("b", recalls("a"), Context([("h", P)] * 8)))
        self.assertEqual(len(shelf), 2)

    def test_recalled_names_in_blocks(self):
        shelf = self.filled()
        inner = Script([("first", [("all", [("recall", "none")])], [("recall", "a")]), ("recall", "other")])
        self.assertEqual(self.refused(shelf, UnknownName, fact("e", inner)).value, "none")
        self.assertEqual(self.refused(shelf, UnknownName, ("script", "a", inner)).value, "none")
        inner = Script([("try", [("recall", "c")])])
        self.assertEqual(self.refused(shelf, Circular, ("script", "a", inner)).name, "a")
        self.assertEqual(self.refused(shelf, Circular, fact("b", inner)).name, "b")
        shelf.apply(fact("e", inner))
        self.assertEqual((shelf.rests("e"), shelf.users("c")), (["a", "b", "c"], ["d", "e"]))

    def test_errors_of_scripts_in_order(self):
        shelf = self.filled()
        self.assertEqual(self.refused(shelf, UnknownName, ("script", "none", recalls("x"))).value, "none")
        self.assertEqual(self.refused(shelf, UnknownName, ("script", "a", recalls("d", "y", "x"))).value, "y")
        self.assertEqual(self.refused(shelf, Circular, ("script", "a", recalls("d"))).name, "a")
        self.assertEqual(self.refused(shelf, Circular, ("script", "b", recalls("c"))).name, "b")
        self.assertEqual(self.refused(shelf, Circular, ("script", "c", recalls("c"))).name, "c")
        shelf.apply(("script", "b", Script()), ("script", "a", recalls("c")))
        self.assertEqual(shelf.rests("a"), ["b", "c"])

    def test_errors_of_drops_in_order(self):
        shelf = self.filled()
        self.assertEqual(self.refused(shelf, NameInUse, ("drop", "a")).user, "b")
        self.assertEqual(self.refused(shelf, NameInUse, ("drop", "c")).user, "d")
        shelf.apply(fact("aa", recalls("a")))
        self.assertEqual(self.refused(shelf, NameInUse, ("drop", "a")).user, "aa")
        self.assertEqual(self.refused(shelf, UnknownName, ("drop", "x")).value, "x")
        shelf.apply(("drop", "d"), ("drop", "c"), ("drop", "b"), ("drop", "aa"), ("drop", "a"))
        self.assertEqual(shelf.names(), [])

    def test_a_step_is_done_whole_or_not_at_all(self):
        shelf = self.filled()
        shelf.verdict("a")
        shelf.undo()
        self.refused(shelf, UnknownName, ("drop", "c"), ("drop", "b"), ("script", "b", EXACT))
        self.refused(shelf, Circular, fact("x"), fact("a", recalls("x")), ("script", "x", recalls("a")))
        self.refused(shelf, Full, *[fact("x" + letter) for letter in "abcdefghij"])
        self.refused(shelf, NameInUse, ("script", "a", Script()), ("drop", "a"))
        shelf.redo()
        self.assertEqual(shelf.names(), ["a", "b", "c", "d"])

    def test_deeds_build_on_one_another(self):
        shelf = Shelf(limit=2)
        shelf.apply(fact("a"), fact("b", recalls("a")))
        shelf.apply(("drop", "b"), fact("c", recalls("a")), ("script", "c", EXACT), ("drop", "a"), fact("a", recalls("c")))
        self.assertEqual((shelf.names(), shelf.history()), (["c", "a"], (2, 0)))

    def test_busy(self):
        shelf = Shelf()
        seen = []

        class Watched(Script):
            def recalled(self):
                seen.append(shelf.busy)
                return super().recalled()

        shelf.apply(fact("a", Watched()))
        self.assertIs(shelf.busy, False)
        self.assertRaises(Circular, shelf.apply, ("script", "a", Watched([("recall", "a")])))
        self.assertEqual((set(seen), shelf.busy), ({True}, False))
        shelf.verdict("a")
        self.assertIs(shelf.busy, False)

    def test_arguments_are_not_changed(self):
        shelf = Shelf()
        names = ["one", ["two"]]
        deeds = (("drop", names),)
        error = self.refused(shelf, UnknownName, *deeds)
        names[1].append("three")
        self.assertEqual(error.value, ["one", ["two"]])


class StepsTest(ShelfTest):
    def test_undo_and_redo(self):
        shelf = self.filled()
        self.assertEqual(shelf.history(), (3, 0))
        self.assertRaises(NothingLeft, shelf.redo)
        self.assertIsNone(shelf.undo())
        self.assertEqual((shelf.names(), shelf.history()), (["a", "b", "c"], (2, 1)))
        shelf.undo()
        shelf.undo()
        self.assertEqual((shelf.names(), shelf.history()), ([], (0, 3)))
        self.assertRaises(NothingLeft, shelf.undo)
        self.assertEqual(shelf.history(), (0, 3))
        self.assertIsNone(shelf.redo())
        self.assertEqual((shelf.names(), shelf.history()), (["a"], (1, 2)))
        shelf.apply(fact("x"))
        self.assertEqual((shelf.names(), shelf.history()), (["a", "x"], (2, 0)))
        self.assertRaises(NothingLeft, shelf.redo)

    def test_a_step_without_deeds(self):
        shelf = self.filled()
        shelf.undo()
        shelf.apply()
        self.assertEqual((shelf.history(), shelf.names()), ((3, 0), ["a", "b", "c"]))
        shelf.undo()
        self.assertEqual((shelf.history(), shelf.names()), ((2, 1), ["a", "b", "c"]))

    def test_undo_brings_all_back(self):
        shelf = self.filled()
        before = shelf.twin()
        shelf.apply(("drop", "d"), fact("a", goal=Q), ("script", "b", Script()), fact("x"))
        later = shelf.twin()
        self.assertNotEqual(shelf, before)
        shelf.undo()
        self.assertEqual(shelf, before)
        self.assertEqual(shelf.names(), ["a", "b", "c", "d"])
        shelf.redo()
        self.assertEqual(shelf, later)

    def test_the_limit(self):
        shelf = self.filled()
        shelf.limit = 4
        self.assertEqual(shelf.limit, 4)
        self.refused(shelf, Full, fact("e"))
        shelf.set_limit(20)
        self.assertEqual((shelf.limit, shelf.history()), (20, (3, 0)))
        self.assertIsNone(shelf.set_limit(value=4))
        for value in LIMITS + [21, 3, 1]:
            with self.assertRaises(InvalidNumber) as caught:
                shelf.limit = value
            self.assertEqual(repr(caught.exception.value), repr(value))
            with self.assertRaises(InvalidNumber) as caught:
                shelf.set_limit(value)
            self.assertEqual(repr(caught.exception.value), repr(value))
            self.assertEqual(shelf.limit, 4)
        self.assertEqual(self.refused(shelf, Full, fact("e")).most, 4)

    def test_undo_and_redo_do_not_look_at_the_limit(self):
        shelf = Shelf(limit=20)
        shelf.apply(*[fact("x" + letter) for letter in "abcdefghijklmnopqrst"])
        self.assertEqual(self.refused(shelf, Full, fact("y")).most, 20)
        shelf.undo()
        shelf.limit = 1
        shelf.redo()
        self.assertEqual((len(shelf), shelf.limit), (20, 1))
        self.assertEqual(self.refused(shelf, Full, fact("y")).most, 1)
        self.refused(shelf, Full, ("drop", "xa"), fact("y"))
        shelf.apply(fact("xa", goal=Q))
        shelf.apply(*[("drop", "x" + letter) for letter in "abcdefghijklmnopqrst"], fact("y"))
        shelf.undo()
        self.assertEqual(len(shelf), 20)
        self.assertRaises(InvalidNumber, shelf.set_limit, 19)
        shelf.set_limit(20)

    def test_the_least_limit(self):
        shelf = Shelf(limit=1)
        shelf.apply(fact("a"))
        self.assertEqual(self.refused(shelf, Full, fact("b")).most, 1)
        shelf.apply(("drop", "a"), fact("b"))
        shelf.limit = 1
        self.assertEqual((shelf.names(), shelf.limit), (["b"], 1))

    def test_twins(self):
        shelf = self.filled()
        shelf.verdict("a")
        shelf.undo()
        shelf.limit = 7
        twin = shelf.twin()
        self.assertEqual((state(twin), steps_of(twin)), (state(shelf), steps_of(shelf)))
        self.assertEqual(twin, shelf)
        before = state(shelf), steps_of(shelf)
        twin.redo()
        twin.verdict("b")
        twin.apply(fact("x"), ("script", "a", Script()))
        twin.limit = 9
        twin.undo()
        twin.undo()
        twin.undo()
        self.assertEqual((state(shelf), steps_of(shelf)), before)
        twin = shelf.twin()
        before = state(twin), steps_of(twin)
        shelf.apply(("drop", "c"))
        shelf.verdict("b")
        self.assertEqual((state(twin), steps_of(twin)), before)


class VerdictsTest(ShelfTest):
    def test_verdicts(self):
        shelf = self.filled()
        verdict = shelf.verdict("a")
        self.assertEqual((verdict.told(), verdict.claim, verdict.holds()), ("steady", shelf.claim_of("a"), True))
        self.assertEqual((shelf.kept(), shelf.computed), (["a"], 1))
        self.assertIs(shelf.verdict("a"), verdict)
        self.assertEqual((shelf.kept(), shelf.computed), (["a"], 1))
        self.assertEqual(shelf.verdict(name="c").told(), decide(shelf.claim_of("c")).told())
        self.assertEqual((shelf.kept(), shelf.computed), (["a", "c"], 2))
        shelf.kept().clear()
        self.assertEqual(shelf.kept(), ["a", "c"])
        self.assertEqual(shelf.history(), (3, 0))

    def test_soundness(self):
        shelf = Shelf()
        shelf.apply(fact("a", context=Context.read("h: p")), fact("b", Script.read("exact h"), Context.read("h: p")))
        shelf.apply(fact("c", Script.read("recall a\nexact a"), goal=("then", P, P)))
        shelf.apply(fact("d", Script.read("recall b\nexact b"), goal=("then", P, P)))
        shelf.apply(fact("e", Script.read("recall d\nrecall c\nexact d"), goal=("then", P, P)))
        self.assertEqual([shelf.verdict(name).told() for name in "abcde"], ["steady", "breach 1"] + ["steady"] * 3)
        self.assertEqual([shelf.is_sound(name) for name in "abcde"], [True, False, True, False, False])
        self.assertEqual(shelf.computed, 5)
        twin = Shelf()
        twin.apply(fact("a", context=Context.read("h: p")), fact("c", Script.read("recall a\nexact a"), goal=("then", P, P)))
        self.assertIs(twin.is_sound(name="c"), True)
        self.assertEqual((twin.kept(), twin.computed), (["a", "c"], 2))

    def test_verdicts_that_stay(self):
        shelf = self.filled()
        for name in "abcd":
            shelf.verdict(name)
        shelf.apply()
        self.assertEqual(shelf.kept(), ["a", "b", "c", "d"])
        shelf.apply(fact("x"), fact("a", context=Context.read("h: p")), ("script", "b", recalls("a")))
        self.assertEqual(shelf.kept(), ["a", "b", "c", "d"])
        shelf.apply(("drop", "d"), fact("d", Script([("try", [("recall", "c")]), ("recall", "a")])))
        self.assertEqual(shelf.kept(), ["a", "b", "c", "d"])
        shelf.limit = 20
        shelf.undo()
        shelf.redo()
        self.assertEqual((shelf.kept(), shelf.computed), (["a", "b", "c", "d"], 4))

    def test_another_script_drops_the_verdict_of_its_entry_alone(self):
        shelf = self.filled()
        for name in "abcd":
            shelf.verdict(name)
        shelf.apply(("script", "a", Script.read("exact h")))
        self.assertEqual(shelf.kept(), ["b", "c", "d"])
        shelf.undo()
        self.assertEqual(shelf.kept(), ["b", "c", "d"])
        shelf.verdict("a")
        self.assertEqual((shelf.kept(), shelf.computed), (["a", "b", "c", "d"], 5))

    def test_another_statement_drops_the_verdicts_of_direct_users(self):
        shelf = self.filled()
        for name in "abcd":
            shelf.verdict(name)
        shelf.apply(fact("a", context=Context.read("h: q")))
        self.assertEqual(shelf.kept(), ["c"])
        shelf.undo()
        self.assertEqual(shelf.kept(), ["c"])
        for name in "abd":
            shelf.verdict(name)
        # The statement of a is as before, with other rows and another goal.
        shelf.apply(fact("a", context=NONE, goal=("then", P, P)))
        self.assertEqual(shelf.kept(), ["b", "c", "d"])
        shelf.apply(fact("a", context=Context.read("k: p")))
        self.assertEqual(shelf.kept(), ["b", "c", "d"])

    def test_entries_that_go_and_come(self):
        shelf = self.filled()
        shelf.verdict("d")
        shelf.apply(("drop", "d"))
        self.assertEqual(shelf.kept(), [])
        shelf.undo()
        self.assertEqual((shelf.kept(), "d" in shelf), ([], True))
        shelf.verdict("d")
        self.assertEqual(shelf.computed, 2)
        shelf.undo()
        self.assertEqual(("d" in shelf, shelf.kept()), (False, []))

    def test_a_step_is_judged_as_a_whole(self):
        shelf = self.filled()
        for name in "abcd":
            shelf.verdict(name)
        shelf.apply(fact("a", goal=Q), fact("a", context=Context.read("h: p")), ("script", "c", Script()))
        self.assertEqual(shelf.kept(), ["a", "b", "d"])

    def test_claims_have_the_statements_of_now(self):
        shelf = Shelf()
        shelf.apply(fact("a"), fact("b", Script.read("recall a\nexact a")))
        self.assertEqual(shelf.verdict("b").told(), "steady")
        shelf.apply(fact("a", goal=Q))
        self.assertEqual(shelf.verdict("b").told(), "breach 0")
        shelf.undo()
        self.assertEqual(shelf.verdict("b").told(), "steady")

    def test_verdicts_that_are_refused(self):
        shelf = Shelf()
        shelf.apply(fact("large", Script.read("exact #1"), goal=sized(201)))
        shelf.apply(fact("many", Script.read("repeat 3\nrepeat 3\nopen #1 x y\nend\nend\nall\nexact =\nend")))
        shelf.apply(fact("good", context=Context.read("h: p")))
        shelf.apply(fact("zz", recalls("good", "many")), fact("aa", recalls("good", "large")))
        before = state(shelf)
        for name, error, most in (("large", TooLarge, 200), ("many", TooMany, 4000)):
            for call in (shelf.verdict, shelf.is_sound):
                with self.assertRaises(error) as caught:
                    call(name)
                self.assertEqual(caught.exception.most, most)
        # Other verdicts that are computed by the same call are not kept.
        self.assertRaises(TooMany, shelf.is_sound, "zz")
        self.assertRaises(TooLarge, shelf.is_sound, "aa")
        self.assertEqual(state(shelf), before)
        self.assertEqual(shelf.verdict("zz").told(), "breach 0")
        self.assertEqual((shelf.kept(), shelf.computed), (["zz"], 1))

    def test_random_steps(self):
        random = Random(19)
        formulas = [P, Q, R, ("then", P, Q)]
        kept = 0
        for _ in range(20):
            shelf = Shelf(limit=6)
            for _ in range(40):
                names = shelf.names()
                before = {name: (shelf.claim_of(name), name in shelf.kept()) for name in names}
                deeds = []
                for _ in range(random.randint(0, 2)):
                    name = random.choice("abcdefgh")
                    script = Script([("recall", other) for other in random.sample(names, min(len(names), random.randint(0, 2)))])
                    deeds.append(random.choice([
                        fact(name, script, goal=random.choice(formulas)), ("script", name, script), ("drop", name)]))
                try:
                    random.choice([lambda: shelf.apply(*deeds), lambda: shelf.apply(*deeds), shelf.undo, shelf.redo])()
                except (GroundError, Missing, NothingLeft):
                    self.assertEqual(names, shelf.names())
                expected = [name for name in before if before[name][1] and name in shelf
                            and shelf.claim_of(name) == before[name][0]]
                self.assertEqual(shelf.kept(), sorted(expected))
                for name in shelf.names():
                    self.assertNotIn(name, shelf.rests(name))
                    self.assertTrue(all(name in shelf.users(other) for other in shelf.claim_of(name).facts()))
                    if random.random() < 0.5:
                        shelf.verdict(name)
                kept += len(expected)
        self.assertGreater(kept, 500)


if __name__ == "__main__":
    unittest.main()
