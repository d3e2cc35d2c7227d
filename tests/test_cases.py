"""Points 13 to 15: cases, their questions, and how questions split them."""

import unittest
from random import Random

from addedgrounds.cases import added_in, asked, first_case, fits, refined
from addedgrounds.contexts import Context
from addedgrounds.errors import TooLarge
from addedgrounds.formulas import read_formula, read_shape
from addedgrounds.scripts import Script
from addedgrounds.steady import Claim, words_of_claim
from addedgrounds.trees import example_of
from tests import model, plain
from tests.claims import FACTS, made_wider, random_parts, sized
from tests.samples import FALSE, P, Q, R, atom, hole, part

ANY, OTHER = hole("a"), hole("b")
EVERY = (None, ANY)
THEN, AND, OR = [(word, ANY, OTHER) for word in ("then", "and", "or")]
GAP = ("gap", 0, ())


def gap(number, *patterns):
    return ("gap", number, patterns)


def own(name, formula):
    return ("own", name, formula)


def new(name, formula):
    return ("new", name, formula)


def asks(script, case, goal=P, facts=None):
    return asked(Script.read(script), case, goal, facts or {})


class FirstCaseTest(unittest.TestCase):
    def test_gaps(self):
        self.assertEqual(first_case(Context()), ((GAP,), ()))
        self.assertEqual(
            first_case(Context.read("h: p\nk: (p > q)")),
            ((GAP, own("h", P), gap(1), own("k", ("then", P, Q)), gap(2)), ()))

    def test_equal_rows_and_equal_names(self):
        self.assertEqual(
            first_case(Context.read("h: p\nh: p\nh: q")),
            ((GAP, own("h", P), gap(1), own("h", P), gap(2), own("h", Q), gap(3)), ()))

    def test_many_rows(self):
        entries, apart = first_case(Context([("h", P)] * 40))
        self.assertEqual([entry[0] for entry in entries], ["gap"] + ["own", "gap"] * 40)
        self.assertEqual(len({entry[1] for entry in entries if entry[0] == "gap"}), 41)
        self.assertEqual(apart, ())


class QuestionsTest(unittest.TestCase):
    def check(self, script, question, case=None, goal=P):
        case = first_case(Context.read("h: p")) if case is None else case
        self.assertEqual(asks(script, case, goal), (question, None))

    def test_each_look_asks_at_the_newest_gap(self):
        self.check("drop h", ("newest", 1, ("h", ANY)))
        self.check("drop k", ("newest", 1, ("k", ANY)))
        self.check("drop #1", ("newest", 1, EVERY))
        self.check("drop #4", ("newest", 1, EVERY))
        self.check("drop [p]", ("newest", 1, (None, P)))
        self.check("drop [(?b > ?b)]", ("newest", 1, (None, ("then", OTHER, OTHER))))
        self.check("drop h:[?c]", ("newest", 1, ("h", hole("c"))))
        self.check("drop =", ("newest", 1, (None, P)))
        self.check("drop >", ("newest", 1, (None, ("then", ANY, P))))

    def test_numbers_from_the_oldest_ask_at_the_oldest_gap(self):
        self.check("drop @1", ("oldest", 0, EVERY))
        self.check("drop @4", ("oldest", 0, EVERY))
        self.check("drop @2", ("oldest", 1, EVERY), ((own("h", P), gap(1)), ()))
        self.assertEqual(asks("drop @1", ((own("h", P), gap(1)), ())), (None, ("open", 1)))
        self.assertEqual(asks("drop @2", ((own("h", P),), ())), (None, ("stopped", (0,), "none")))

    def test_rows_that_a_run_adds_stand_behind_all_gaps(self):
        self.assertEqual(asks("intro x\nexact #1", first_case(Context()), ("then", P, P)), (None, ("shown",)))
        self.assertEqual(asks("intro x\nexact x", first_case(Context()), ("then", P, P)), (None, ("shown",)))
        self.check("intro x\ndrop #2", ("newest", 0, EVERY), first_case(Context()), ("then", P, P))
        self.check("intro x\ndrop x\ndrop x", ("newest", 0, ("x", ANY)), first_case(Context()), ("then", P, P))
        self.assertEqual(
            asks("intro x\nexact y:[p]", ((gap(0, ("y", P)),), ()), ("then", P, P)), (None, ("stopped", (1,), "none")))

    def test_moved_rows_stand_behind_gaps(self):
        case = ((own("h", P), gap(1)), ())
        self.assertEqual(asks("move @1\nexact #1", case), (None, ("shown",)))
        self.check("exact #1", ("newest", 1, EVERY), case)
        self.check("drop @1\nexact @1", ("oldest", 1, EVERY), case)

    def test_a_pattern_of_the_gap_decides(self):
        case = ((own("h", P), gap(1, ("h", ANY))), ())
        self.assertEqual(asks("exact h", case), (None, ("shown",)))
        self.check("exact h:[p]", ("newest", 1, ("h", P)), case)
        self.check("exact h:[?b]", ("newest", 1, ("h", OTHER)), case)
        self.check("exact #1", ("newest", 1, EVERY), case)
        self.check("exact h", ("newest", 1, ("h", ANY)), ((own("h", P), gap(1, ("h", OTHER))), ()))
        self.assertEqual(asks("exact =", ((gap(0, (None, P)),), ())), (None, ("stopped", (0,), "none")))

    def test_pairs_that_fit_as_they_are(self):
        case = ((new(0, part(0)), new("h", ("then", part(0), part(1)))), ())
        self.assertEqual(asks("drop h", case), (None, ("open", 1)))
        self.assertEqual(asks("drop [(?a > ?b)]\ndrop #1\ndrop #1", case), (None, ("stopped", (2,), "none")))
        self.assertEqual(asks("use #1 @1 x\nexact x", case, part(1)), (None, ("shown",)))

    def test_pairs_that_cannot_fit(self):
        case = ((new("h", ("then", part(0), part(0))),), ())
        self.assertEqual(asks("drop k", case), (None, ("stopped", (0,), "none")))
        self.assertEqual(asks("drop [(?a & ?b)]", case), (None, ("stopped", (0,), "none")))
        self.assertEqual(asks("drop [((p > q) > (p > p))]", case), (None, ("stopped", (0,), "none")))
        self.assertEqual(asks("drop [(?a > (?a & p))]", case), (None, ("stopped", (0,), "none")))
        self.assertEqual(asks("drop [(?a > (?a > ?b))]", case), (None, ("stopped", (0,), "none")))
        self.assertEqual(asks("exact h", case), (None, ("stopped", (0,), "other")))

    def test_pairs_that_may_fit(self):
        case = ((new(0, ("then", part(0), part(1))),), ())
        row = (0, ("then", part(0), part(1)))
        self.check("drop k", ("fits", row, ("k", ANY)), case)
        self.check("drop [(?a > ?a)]", ("fits", row, (None, ("then", ANY, ANY))), case)
        self.check("drop k:[(p > ?a)]", ("fits", row, ("k", ("then", P, ANY))), case)
        self.check("drop >", ("fits", row, (None, ("then", ANY, P))), case)
        self.check("drop =", ("fits", row, (None, ("then", P, Q))), case, ("then", P, Q))

    def test_rows_with_names_and_unknown_parts(self):
        case, row = ((new("h", part(0)),), ()), ("h", part(0))
        self.check("drop h:[q]", ("fits", row, ("h", Q)), case)
        self.check("drop [q]", ("fits", row, (None, Q)), case)
        self.check("drop =", ("fits", row, (None, P)), case)
        self.check("drop >", ("fits", row, (None, ("then", ANY, P))), case)
        self.assertEqual(asks("drop k:[q]", case), (None, ("stopped", (0,), "none")))
        self.assertEqual(asks("drop h:[?b]", case), (None, ("open", 1)))
        self.check("drop k:[q]", ("fits", (0, part(0)), ("k", Q)), ((new(0, part(0)),), ()))
        self.assertEqual(asks("drop k:[q]", ((new(0, P),), ())), (None, ("stopped", (0,), "none")))

    def test_what_is_apart_does_not_fit(self):
        row, pattern = (0, part(0)), ("h", ANY)
        case = ((own("h", P), new(*row)), ((row, pattern),))
        self.assertEqual(asks("exact h", case), (None, ("shown",)))
        self.check("exact h:[p]", ("fits", row, ("h", P)), case)
        self.check("exact k", ("fits", row, ("k", ANY)), case)
        self.check("exact h:[?b]", ("fits", row, ("h", OTHER)), case)

    def test_questions_of_formulas(self):
        case = ((new("h", part(0)),), ())
        self.check("exact h", ("fits", (None, part(0)), (None, P)), case)
        self.check("apply h", ("fits", (None, part(0)), (None, ("then", ANY, P))), case)
        self.check("use h h x", ("fits", (None, part(0)), (None, THEN)), case)
        self.check("intro x", ("fits", (None, part(0)), (None, THEN)), case, part(0))
        self.check("split", ("fits", (None, part(0)), (None, AND)), case, part(0))
        self.check("left", ("fits", (None, part(0)), (None, OR)), case, part(0))
        self.check("right", ("fits", (None, part(0)), (None, OR)), case, part(0))
        two = ((new("h", part(0)), new("k", ("then", part(1), Q))), ())
        self.check("use k h x", ("fits", (None, part(0)), (None, part(1))), two)

    def test_use_looks_for_both_rows_first(self):
        case = ((gap(0), new("h", part(0))), ())
        self.check("use h k x", ("newest", 0, ("k", ANY)), case)
        self.assertEqual(
            asks("use h k x", ((gap(0, ("k", ANY)), new("h", part(0))), ())), (None, ("stopped", (0,), "none")))

    def test_open_asks_in_its_order(self):
        pair = (None, part(0))
        case = ((new("h", part(0)),), ())
        self.check("open h x y", ("fits", pair, (None, FALSE)), case)
        case = (case[0], ((pair, (None, FALSE)),))
        self.check("open h x y", ("fits", pair, (None, AND)), case)
        case = (case[0], case[1] + ((pair, (None, AND)),))
        self.check("open h x y", ("fits", pair, (None, OR)), case)
        case = (case[0], case[1] + ((pair, (None, OR)),))
        self.assertEqual(asks("open h x y", case), (None, ("stopped", (0,), "shape")))

    def test_ends(self):
        case = first_case(Context.read("h: p"))
        self.assertEqual(asks("", case), (None, ("open", 1)))
        self.assertEqual(asks("split\nsplit", case, read_formula("((p & q) & r)")), (None, ("open", 3)))
        self.assertEqual(asks("have x p\nsplit", case), (None, ("stopped", (1,), "shape")))
        self.assertEqual(asks("recall fa", case), (None, ("stopped", (0,), "fact")))
        self.assertEqual(asks("recall fa\nexact fa", case, FACTS["fa"], FACTS), (None, ("shown",)))
        self.assertEqual(asks("recall fa\nexact #1\nsplit", case, FACTS["fa"], FACTS), (None, ("stopped", (2,), "empty")))
        self.assertEqual(asks("try\nfirst\nsplit\nelse\nend\nall\nsplit\nend\nend", case), (None, ("open", 1)))
        self.assertEqual(asks("all\nall\nsplit\nend\nend", case), (None, ("stopped", (0, 0, 0, 0, 0), "shape")))

    def test_questions_in_blocks(self):
        case = first_case(Context.read("h: p"))
        for script in ("try\nexact h\nend", "first\nexact h\nelse\nabsurd\nend", "first\nsplit\nelse\nexact h\nend",
                       "repeat 3\nexact h\nend", "all\ntry\nexact h\nend\nend", "try\nsplit\nend\nexact h"):
            self.check(script, ("newest", 1, ("h", ANY)), case)

    def test_asked_takes_names(self):
        self.assertEqual(
            asked(script=Script(), case=first_case(Context()), goal=P, facts={}), (None, ("open", 1)))


class SplitsTest(unittest.TestCase):
    def alike(self, cases, *expected):
        """Cases, up to the numbers of unknown parts, unknown names and gaps that are new."""
        self.assertIsInstance(cases, list)
        self.assertEqual([plain.renumbered(case) for case in cases], [plain.renumbered(case) for case in expected])

    def test_newest_by_a_name(self):
        case = first_case(Context.read("h: p"))
        pattern = ("h", ANY)
        self.alike(
            refined(case, ("newest", 1, pattern)),
            ((gap(0), own("h", P), gap(1, pattern)), ()),
            ((gap(0), own("h", P), gap(1), new("h", part(0)), gap(2, pattern)), ()))
        with_row = refined(case, ("newest", 1, pattern))[1][0]
        self.assertEqual([entry[1] for entry in with_row[:3]], [0, "h", 1])
        self.assertNotIn(with_row[4][1], (0, 1))

    def test_newest_by_a_shape(self):
        pattern = (None, read_shape("((?b > ?a) & (?b | p))"))
        formula = ("and", ("then", part(0), part(1)), ("or", part(0), P))
        self.alike(
            refined(first_case(Context()), ("newest", 0, pattern)),
            ((gap(0, pattern),), ()), ((gap(0), new(0, formula), gap(1, pattern)), ()))

    def test_newest_by_a_shape_and_a_name(self):
        pattern = ("k", ("then", ANY, ANY))
        self.alike(
            refined(first_case(Context()), ("newest", 0, pattern)),
            ((gap(0, pattern),), ()), ((gap(0), new("k", ("then", part(0), part(0))), gap(1, pattern)), ()))

    def test_newest_by_a_number_leaves_gaps_out(self):
        self.alike(
            refined(first_case(Context()), ("newest", 0, EVERY)), ((), ()), ((gap(0), new(0, part(0))), ()))
        self.alike(
            refined(first_case(Context.read("h: p")), ("newest", 1, EVERY)),
            ((gap(0), own("h", P)), ()), ((gap(0), own("h", P), gap(1), new(0, part(0))), ()))

    def test_a_gap_with_another_hole_stays(self):
        pattern = (None, OTHER)
        self.alike(
            refined(first_case(Context()), ("newest", 0, pattern)),
            ((gap(0, pattern),), ()), ((gap(0), new(0, part(0)), gap(1, pattern)), ()))
        # Its rows would fit the pattern, so that the case with a row is left out.
        self.alike(refined(((gap(0, pattern),), ()), ("newest", 0, ("h", ANY))), ((gap(0, pattern, ("h", ANY)),), ()))
        self.alike(refined(((gap(0, pattern),), ()), ("newest", 0, EVERY)), ((), ()))
        self.alike(refined(((gap(0, pattern),), ()), ("oldest", 0, EVERY)), ((), ()))

    def test_oldest(self):
        pattern = ("h", ANY)
        case = ((own("h", P), gap(3, pattern), own("k", Q), gap(5)), ())
        self.alike(
            refined(case, ("oldest", 3, EVERY)),
            ((own("h", P), own("k", Q), gap(5)), ()),
            ((own("h", P), new(0, part(0)), gap(3, pattern), own("k", Q), gap(5)), (((0, part(0)), pattern),)))
        cases = refined(case, ("oldest", 3, EVERY))
        self.assertEqual([entry for entry in cases[1][0] if entry[0] == "gap"], [gap(3, pattern), gap(5)])

    def test_patterns_stand_behind_the_others(self):
        case = ((gap(0, ("h", ANY), (None, P)),), ())
        cases = refined(case, ("newest", 0, ("k", ANY)))
        self.assertEqual(cases[0], ((gap(0, ("h", ANY), (None, P), ("k", ANY)),), ()))
        self.assertEqual(cases[1][0][0], case[0][0])
        self.assertEqual(cases[1][0][2][2], (("h", ANY), (None, P), ("k", ANY)))

    def test_a_new_row_is_apart_from_the_patterns_of_its_gap(self):
        case = ((gap(0, ("h", ANY), (None, ("and", ANY, P)), (None, Q)),), ())
        shape = (None, ("and", ANY, OTHER))
        row = (0, ("and", part(0), part(1)))
        self.alike(
            refined(case, ("newest", 0, shape)),
            ((gap(0, *case[0][0][2], shape),), ()),
            ((case[0][0], new(*row), gap(1, *case[0][0][2], shape)),
             ((row, ("h", ANY)), (row, (None, ("and", ANY, P))))))
        # A pair that cannot fit is left out of what is apart.
        cases = refined(case, ("newest", 0, ("k", Q)))
        self.alike(cases, ((gap(0, *case[0][0][2], ("k", Q)),), ()))
        cases = refined(case, ("newest", 0, ("k", R)))
        self.assertEqual([found[1] for found in cases], [(), ()])

    def test_a_row_that_fits_a_pattern_of_its_gap_is_left_out(self):
        for pattern in ((None, ("then", P, P)), ("k", P), ("k", ("then", ANY, Q))):
            case = ((gap(0, (None, ("then", ANY, OTHER)), ("k", OTHER)),), ())
            self.alike(refined(case, ("newest", 0, pattern)), ((gap(0, *case[0][0][2], pattern),), ()))

    def test_a_pair_that_fits(self):
        pair, pattern = (None, part(0)), (None, ("then", ANY, P))
        case = ((gap(0), own("h", Q), new("k", part(0)), gap(1, (None, part(0)), ("k", part(1))), new(0, part(1))), ())
        worth = ("then", part(2), P)
        self.alike(
            refined(case, ("fits", pair, pattern)),
            ((gap(0), own("h", Q), new("k", worth), gap(1, (None, worth), ("k", part(1))), new(0, part(1))), ()),
            (case[0], ((pair, pattern),)))

    def test_names_that_have_to_be_made_equal(self):
        pair, pattern = (3, ("and", part(0), part(1))), ("h", ("and", ANY, ANY))
        case = ((new(3, pair[1]), new(4, part(1)), new(3, part(2))), (((3, part(2)), ("k", ANY)),))
        cases = refined(case, ("fits", pair, pattern))
        self.alike(
            cases,
            ((new("h", ("and", part(0), part(0))), new(4, part(0)), new("h", part(2))), ()),
            (case[0], (((3, part(2)), ("k", ANY)), (pair, pattern))))

    def test_as_little_special_as_is_needed(self):
        pair, pattern = (None, ("and", part(0), ("or", part(1), P))), (None, ("and", ("or", ANY, OTHER), part(0)))
        case = ((new("h", part(0)), new("k", part(1))), ())
        self.alike(
            refined(case, ("fits", pair, pattern)),
            ((new("h", ("or", part(0), P)), new("k", part(0))), ()), (case[0], ((pair, pattern),)))

    def test_new_numbers(self):
        # Also what stands in patterns and in what is apart alone has numbers that are not new.
        for case in (((gap(0, (None, part(0)), (None, part(1))),), ()), ((gap(0),), (((None, part(0)), (None, part(1))),)),
                     ((gap(0), new("h", ("and", part(1), part(0)))), ()), ((gap(0), new("h", P)), (((4, part(1)), ("h", part(0))),))):
            row = refined(case, ("newest", 0, (None, ("then", ANY, OTHER))))[1][0][1]
            self.assertEqual((row[0], row[2][0], row[2][1][0]), ("new", "then", "part"))
            self.assertEqual(len({row[2][1], row[2][2], part(0), part(1)}), 4)
        for names in ((0, 1), (1, 0), ("h", 1), (5, "h")):
            entries, apart = refined(((gap(7), *[new(name, P) for name in names], gap(3)), ()), ("newest", 7, (None, Q)))[1]
            self.assertNotIn(entries[1][1], names)
            self.assertEqual((entries[0], entries[2][1] in (3, 7)), (gap(7), False))

    def test_holes_are_no_unknown_parts(self):
        # The holes of a pattern get numbers that no unknown part of the case has.
        pair, pattern = (None, part(0)), (None, ("then", ANY, OTHER))
        case = ((new("h", part(0)), new("k", part(1)), new("m", part(2))), ())
        self.alike(
            refined(case, ("fits", pair, pattern)),
            ((new("h", ("then", part(0), part(3))), new("k", part(1)), new("m", part(2))), ()),
            (case[0], ((pair, pattern),)))

    def test_what_is_apart_follows(self):
        apart = (((None, part(0)), (None, P)), ((None, part(0)), (None, ("then", ANY, P))), ((None, part(1)), (None, Q)))
        case = ((new("h", part(0)), new("k", part(1))), apart)
        cases = refined(case, ("fits", (None, part(0)), (None, ("then", Q, OTHER))))
        worth = ("then", Q, part(0))
        self.alike(
            cases,
            ((new("h", worth), new("k", part(1))),
             (((None, worth), (None, ("then", ANY, P))), ((None, part(1)), (None, Q)))),
            (case[0], apart + (((None, part(0)), (None, ("then", Q, OTHER))),)))

    def test_cases_that_are_left_out(self):
        apart = (((None, part(0)), (None, P)),)
        case = ((new("h", part(0)),), apart)
        self.assertEqual(
            refined(case, ("fits", ("h", part(0)), (None, P))), [(case[0], apart + ((("h", part(0)), (None, P)),))])

    def test_equal_pairs_stand_once(self):
        apart = (((None, part(0)), (None, P)), ((None, part(1)), (None, P)))
        case = ((new("h", part(0)), new("k", part(1))), apart)
        cases = refined(case, ("fits", (None, part(0)), (None, part(1))))
        self.alike(
            cases, ((new("h", part(0)), new("k", part(0))), (((None, part(0)), (None, P)),)),
            (case[0], apart + (((None, part(0)), (None, part(1))),)))

    def test_too_large(self):
        for many, refused in ((199, False), (201, True)):
            goal = sized(many)
            case = ((new("h", part(0)),), ())
            question, _ = asks("exact h", case, goal)
            self.assertEqual(question, ("fits", (None, part(0)), (None, goal)))
            if refused:
                with self.assertRaises(TooLarge) as caught:
                    refined(case, question)
                self.assertEqual(caught.exception.most, 200)
            else:
                self.assertEqual(refined(case, question)[0], ((new("h", goal),), ()))

    def test_too_large_a_hole(self):
        for many, refused in ((199, False), (201, True)):
            big = sized(many)
            case = ((own("h", ("then", big, P)), new("k", part(0))), ())
            question = ("fits", (None, ("then", big, P)), (None, ("then", ANY, part(0))))
            self.assertEqual(asks("apply @1", case, part(0)), (question, None))
            if refused:
                self.assertRaises(TooLarge, refined, case, question)
            else:
                self.assertEqual(refined(case, question)[0], ((case[0][0], new("k", P)), ()))

    def test_large_own_rows_and_doubled_parts_are_no_errors(self):
        big = sized(199)
        case = ((new("h", ("and", part(0), part(0))), new("k", part(0))), ())
        cases = refined(case, ("fits", (None, part(0)), (None, big)))
        self.assertEqual(cases[0][0][0], new("h", ("and", big, big)))

    def test_added_in(self):
        self.assertEqual(added_in(first_case(Context.read("h: p\nk: q"))), 0)
        self.assertEqual(added_in(((own("h", P), new("h", P), gap(0), new(0, part(0))), ())), 2)
        self.assertEqual(added_in(case=((), ())), 0)

    def test_arguments_are_not_changed(self):
        script, facts = Script.read("use #1 #2 x\nrecall fa"), dict(FACTS)
        case = first_case(Context.read("h: p"))
        for _ in range(2):
            question, told = asked(script, case, P, facts)
            before = repr(case), repr(question)
            case, before_last = refined(case, question)[-1], case
            self.assertEqual((repr(before_last), repr(question)), before)
        self.assertEqual(facts, FACTS)
        self.assertEqual(refined(case, asked(script, case, P, facts)[0]), refined(case, asked(script, case, P, facts)[0]))


class FitsTest(unittest.TestCase):
    def check(self, case, text, places, expected):
        self.assertIs(fits(case, Context.read(text), places), expected)

    def test_first_cases(self):
        context = Context.read("h: p\nk: q")
        case = first_case(context)
        self.check(case, "h: p\nk: q", [0, 1], True)
        self.check(case, "m: r\nh: p\nm: r\nm: r\nk: q\nm: r", [1, 4], True)
        self.check(case, "m: r\nh: p\nm: r\nm: r\nk: q\nm: r", (1, 4), True)
        for places in ([0, 4], [1, 3], [1], [1, 4, 5], [1, 4, 9], [-1, 1, 4], [1, 1, 4], [4, 1], [1, 1], [1, 6], [-5, 4], []):
            self.check(case, "m: r\nh: p\nm: r\nm: r\nk: q\nm: r", places, False)
        self.check(case, "h: p\nh: q", [0, 1], False)
        self.check(case, "k: q\nh: p", [0, 1], False)
        self.check(first_case(Context()), "", [], True)
        self.check(first_case(Context()), "h: p\nh: p", [], True)
        self.check(((), ()), "h: p", [], False)

    def test_equal_rows(self):
        case = ((own("h", P), gap(1)), ())
        self.check(case, "h: p\nh: p", [0], True)
        self.check(case, "h: p\nh: p", [1], False)

    def test_gaps(self):
        case = ((gap(0, ("h", ANY), (None, ("then", ANY, ANY))), own("k", P)), ())
        self.check(case, "m: p\nk: q\nk: p", [2], True)
        self.check(case, "m: p\nh: q\nk: p", [2], False)
        self.check(case, "m: (p > q)\nk: p", [1], True)
        self.check(case, "m: (p > p)\nk: p", [1], False)

    def test_unknown_parts_and_names(self):
        case = ((new(0, part(0)), new(1, ("then", part(0), part(1))), new(0, part(1))), ())
        self.check(case, "h: p\nk: (p > q)\nh: q", [], True)
        self.check(case, "h: p\nh: (p > p)\nh: p", [], True)
        self.check(case, "h: p\nk: (p > q)\nk: q", [], False)
        self.check(case, "h: p\nk: (q > q)\nh: q", [], False)
        self.check(case, "h: p\nk: (p > q)\nh: p", [], False)
        self.check(case, "h: p\nk: (p & q)\nh: q", [], False)
        self.check(case, "h: p\nk: (p > q)\nh: q", [1], False)

    def test_unknown_parts_in_patterns_of_gaps(self):
        case = ((new(0, part(0)), gap(0, (None, part(0)))), ())
        self.check(case, "h: p\nk: q", [], True)
        self.check(case, "h: p\nk: p", [], False)
        case = ((gap(0, (None, part(0))), new(0, ("and", part(0), P)), gap(1, (None, part(0)))), ())
        self.check(case, "m: q\nk: (q & p)\nh: r", [], False)
        self.check(case, "m: r\nk: (q & p)\nh: q", [], False)
        self.check(case, "m: r\nk: (q & p)\nh: r", [], True)
        self.check(case, "m: r\nk: (q & p)\nh: (r & p)", [], True)

    def test_apart(self):
        row = (0, part(0))
        case = ((gap(0), new(*row), gap(1)), ((row, ("h", ANY)), ((None, part(0)), (None, P))))
        self.check(case, "k: q", [], True)
        self.check(case, "h: q", [], False)
        self.check(case, "k: p", [], False)
        self.check(case, "k: p\nh: q", [], False)
        self.check(case, "k: p\nk: q", [], True)
        case = ((new(0, part(0)), new(1, part(1))), (((None, part(0)), (None, part(1))),))
        self.check(case, "h: p\nk: q", [], True)
        self.check(case, "h: p\nk: p", [], False)

    def test_each_wider_context_fits_one_end(self):
        random = Random(15)
        many = 0
        for _ in range(250):
            commands, rows, goal = random_parts(random, 6)
            nodes = plain.tree(rows, lambda case: asked(Script(commands), case, goal, FACTS), 200)
            if nodes is None:
                continue
            ends = [(case, told) for case, question, told in nodes if told]
            claim = Claim(Script(commands), Context(rows), goal, facts=FACTS)
            words = words_of_claim(claim.context, goal, FACTS) + claim.script.words()
            for case, told in ends:
                context, places = example_of(case, words, None)
                some, places = made_wider(random, context.rows(), places, random.randint(0, 2))
                found = [other for other in ends if fits(other[0], Context(some), places)]
                self.assertEqual(len(found), 1)
                end = model.end_of(commands, some, goal, FACTS)
                self.assertEqual(found[0][1], ("open", len(end[1])) if end[0] == "open" else end)
                many += 1
        self.assertGreater(many, 1000)


class PlainReadingTest(unittest.TestCase):
    def test_trees_are_those_of_a_second_reading(self):
        random = Random(14)
        known = 0
        for _ in range(250):
            commands, rows, goal = random_parts(random, 7)
            script = Script(commands)
            cases = [first_case(Context(rows))]
            others = plain.tree(rows, lambda case: plain.told_on(commands, case, goal, FACTS), 200)
            for at in range(min(len(others or []), 60)):
                question, told = asked(script, cases[at], goal, FACTS)
                self.assertEqual(told, others[at][2])
                self.assertEqual(
                    plain.renumbered(cases[at], question), plain.renumbered(others[at][0], others[at][1]))
                cases += refined(cases[at], question) if question else []
                known += 1
        self.assertGreater(known, 2000)


if __name__ == "__main__":
    unittest.main()
