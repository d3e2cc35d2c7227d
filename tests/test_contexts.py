"""Promises 9 to 13: contexts."""

import unittest
from itertools import combinations, product

from addedgrounds.contexts import Context, KnownRows
from addedgrounds.errors import InvalidNumber, InvalidRow, InvalidText, TooMany
from addedgrounds.formulas import chained, read_formula
from tests.samples import FALSE, OTHER_VALUES, P, Q, R, atom, full, hole, nested, part

ROW = ("h", P)
ROWS = [("h", P), ("k", ("then", P, Q)), ("h", FALSE), ("m", ("or", atom("zz"), atom("a")))]
TEXT = "h: p\nk: (p > q)\nh: 0\nm: (zz | a)"
DEEP = nested(15)
# These two of the other values are no formulas, but rows: their first words are names.
ODD_ROWS = [("atom", P), ("then", P)]
NOT_ROWS = [value for value in OTHER_VALUES if value not in ODD_ROWS] + [
    P, "h", "h: p", ("h", hole("a")), ("h", part(0)), ("h", nested(11)), ("h", full(1500)),
    ("h", ("then", P, ["atom", "q"])), Context(), ("h", "p"), ("h", ROW), (ROW,), [ROW]]


def many_rows(many):
    return [("abcdef"[:1 + at // 26] + "abcdefghijklmnopqrstuvwxyz"[at % 26], P) for at in range(many)]


def deep_context(*rows):
    """A context as a run may return it, whose rows may be nested deeper than 10."""
    return Context(KnownRows(rows))


class MadeContextsTest(unittest.TestCase):
    def test_rows(self):
        for many in (0, 1, 39, 40):
            rows = many_rows(many)
            context = Context(rows)
            self.assertEqual(context.rows(), rows)
            self.assertEqual(Context(tuple(rows)), context)
            self.assertEqual(Context.of(*rows), context)
            self.assertEqual(Context(rows=rows), context)
            self.assertEqual(len(context), many)
            self.assertEqual(repr(context), f"Context({many} rows)")
        self.assertEqual(Context().rows(), [])
        self.assertEqual(Context.of().rows(), [])
        self.assertEqual(Context.MOST, 40)

    def test_of_and_read_are_static_methods(self):
        self.assertIsInstance(Context.__dict__["of"], staticmethod)
        self.assertIsInstance(Context.__dict__["read"], staticmethod)
        self.assertEqual(Context(ROWS).of(ROW).rows(), [ROW])
        self.assertEqual(Context(ROWS).read("h: p").rows(), [ROW])

    def test_names_and_words(self):
        context = Context(ROWS)
        self.assertEqual(context.names(), ["h", "k", "h", "m"])
        self.assertEqual(context.words(), ["a", "h", "k", "m", "p", "q", "zz"])
        self.assertEqual([Context().names(), Context().words()], [[], []])
        self.assertEqual(Context.of(("p", P), ("p", FALSE)).words(), ["p"])
        self.assertEqual(Context.of(("z", FALSE)).words(), ["z"])

    def test_text(self):
        self.assertEqual(Context(ROWS).text(), TEXT)
        self.assertEqual(Context().text(), "")
        self.assertEqual(Context.of(ROW).text(), "h: p")

    def test_equal_contexts(self):
        self.assertTrue(Context(ROWS) == Context(list(ROWS)))
        self.assertFalse(Context(ROWS) != Context(list(ROWS)))
        self.assertTrue(Context() == Context([]))
        for rows in (ROWS[:-1], ROWS[1:], list(reversed(ROWS)), ROWS + [ROW], [], ROWS[:3] + [("m", P)],
                     ROWS[:3] + [("n", ROWS[3][1])]):
            self.assertFalse(Context(ROWS) == Context(rows))
            self.assertTrue(Context(ROWS) != Context(rows))

    def test_a_context_equals_nothing_else(self):
        for value in OTHER_VALUES + [TEXT, ROWS, tuple(ROWS), object()]:
            self.assertIs(Context(ROWS) == value, False)
            self.assertIs(Context(ROWS) != value, True)
        for value in ([], (), "", None, 0, False, {}):
            self.assertIs(Context() == value, False)

    def test_rows_that_stand_in_it(self):
        context = Context(ROWS)
        for row in ROWS:
            self.assertIs(row in context, True)
        for value in NOT_ROWS + [("k", P), ("h", Q), ["h", P], ("h", ["atom", "p"]), ("h", P, P), 0, None]:
            self.assertIs(value in context, False)
            self.assertIs(value in Context(), False)

    def test_a_deeper_row_that_stands_in_it(self):
        context = deep_context(ROW, ("d", DEEP))
        self.assertIs(("d", DEEP) in context, True)
        self.assertIs(("d", nested(15)) in context, True)
        self.assertIs(("d", nested(16)) in context, False)
        self.assertIs(("e", DEEP) in context, False)
        self.assertIs(("d", DEEP) in Context(ROWS), False)

    def test_equal_rows(self):
        context = Context.of(ROW, ROW, ROW)
        self.assertEqual(context.rows(), [ROW, ROW, ROW])
        self.assertEqual(context.text(), "h: p\nh: p\nh: p")
        self.assertEqual(len(context), 3)

    def test_lists_are_copied_and_new(self):
        rows = list(ROWS)
        context = Context(rows)
        rows.append(ROW)
        rows[0] = ("x", Q)
        self.assertEqual(context.rows(), ROWS)
        for returned in (context.rows(), context.names(), context.words(), context.places_of(context)):
            returned.append("x")
            returned.reverse()
        self.assertEqual(context.rows(), ROWS)
        self.assertEqual(context.names(), ["h", "k", "h", "m"])
        self.assertEqual(context.words(), ["a", "h", "k", "m", "p", "q", "zz"])
        self.assertEqual(context.places_of(context), [0, 1, 2, 3])

    def test_the_argument_is_not_changed(self):
        rows = list(ROWS)
        Context(rows).with_row(0, "x", Q).without(1)
        Context.of(*rows)
        self.assertEqual(rows, ROWS)

    def test_deep_rows(self):
        self.assertEqual(Context.of(("h", nested(10))).rows(), [("h", nested(10))])
        context = deep_context(("d", chained([P] * 200, R)), ROW)
        self.assertEqual(context.words(), ["d", "h", "p", "r"])
        self.assertEqual(context.text(), "d: " + "(p > " * 200 + "r" + ")" * 200 + "\nh: p")


class RefusedRowsTest(unittest.TestCase):
    def check(self, rows, at):
        for make in (lambda: Context(rows), lambda: Context(tuple(rows)), lambda: Context.of(*rows)):
            with self.assertRaises(InvalidRow) as caught:
                make()
            self.assertEqual(caught.exception.at, at)

    def test_values_that_are_no_rows(self):
        for value in NOT_ROWS:
            self.check([value], 0)
            self.check([ROW, value, ROW], 1)

    def test_words_of_formulas_may_be_names(self):
        self.assertEqual(Context(ODD_ROWS).rows(), ODD_ROWS)
        self.assertEqual(Context(ODD_ROWS).text(), "atom: p\nthen: p")

    def test_a_wrong_row_at_each_place(self):
        for many in (1, 2, 40, 41, 42, 50):
            for at in range(many):
                rows = many_rows(many)
                rows[at] = ("h", nested(11))
                self.check(rows, at)

    def test_the_first_wrong_row_counts(self):
        self.check([ROW, None, ROW, 1], 1)
        self.check(many_rows(41) + [None, None], 41)

    def test_too_many_rows(self):
        for many in (41, 42, 200):
            rows = [ROW] * many
            for make in (lambda: Context(rows), lambda: Context.of(*rows)):
                with self.assertRaises(TooMany) as caught:
                    make()
                self.assertEqual(caught.exception.most, 40)


class TextsOfContextsTest(unittest.TestCase):
    def check(self, text, line):
        with self.assertRaises(InvalidText) as caught:
            Context.read(text)
        self.assertEqual(caught.exception.line, line)

    def test_texts(self):
        self.assertEqual(Context.read(TEXT), Context(ROWS))
        self.assertEqual(Context.read(""), Context())
        self.assertEqual(Context.read("h: p"), Context.of(ROW))
        self.assertEqual(Context.read("h: p\nh: p"), Context.of(ROW, ROW))
        self.assertEqual(Context.read("abcdef: abcdef"), Context.of(("abcdef", atom("abcdef"))))

    def test_texts_of_all_lengths(self):
        for many in (0, 1, 2, 39, 40):
            context = Context(many_rows(many))
            self.assertEqual(Context.read(context.text()), context)

    def test_wrong_lines(self):
        for line in ("", " ", "h", "h:", "h: ", "h:p", "h :p", "h : p", "h:  p", " h: p", "h: p ", "h: p\r", ": p",
                     "h: P", "H: p", "h: q1", "abcdefg: p", "h: abcdefg", "h: (p > q", "h: p > q", "h: ?a",
                     "h: (p >q)", "h; p", "h:: p", "h: h: p", "h1: p", "h: p, k: q", "h\t: p", "h:\tp", "0: p",
                     "h k: p", "?a: p", "h: " + "(p > " * 10 + "p" + ")" * 10, "h: " + "(" * 2900):
            if line:
                self.check(line, 0)
            self.check(line + "\n", 0)
            self.check(line + "\nk: q", 0)
            self.check("k: q\n" + line, 1)
            self.check("k: q\n" + line + "\n" + line + "\nk: q", 1)

    def test_first_last_and_empty_lines(self):
        self.check("\n", 0)
        self.check("\n\n", 0)
        self.check("\nh: p", 0)
        self.check("h: p\n", 1)
        self.check("h: p\n\nk: q", 1)
        self.check("h: p\nk: q\n", 2)
        self.check("h: p\nk: q\nm", 2)

    def test_deepest_formulas(self):
        text = "h: " + "(p > " * 9 + "p" + ")" * 9
        self.assertEqual(Context.read(text), Context.of(("h", read_formula(text[3:]))))
        self.check(deep_context(ROW, ("d", nested(11))).text(), 1)

    def test_values_that_are_no_strings(self):
        for value in OTHER_VALUES + [b"h: p", ["h: p"], Context()]:
            if not isinstance(value, str):
                self.check(value, 0)

    def test_too_many_rows_behind_wrong_lines(self):
        for many in (41, 42):
            with self.assertRaises(TooMany) as caught:
                Context.read("\n".join(["h: p"] * many))
            self.assertEqual(caught.exception.most, 40)
        for at in range(42):
            lines = ["h: p"] * 42
            lines[at] = "h: "
            self.check("\n".join(lines), at)
        self.check("h: p\n" * 41, 41)


class ChangedContextsTest(unittest.TestCase):
    def test_with_row(self):
        context = Context(ROWS)
        for at in range(5):
            other = context.with_row(at, "x", Q)
            self.assertEqual(other.rows(), ROWS[:at] + [("x", Q)] + ROWS[at:])
            self.assertEqual(context.rows(), ROWS)
        self.assertEqual(Context().with_row(0, "x", Q).rows(), [("x", Q)])
        self.assertEqual(Context().with_row(at=0, name="x", formula=Q).rows(), [("x", Q)])

    def test_with_row_at_a_wrong_place(self):
        for many in (0, 4):
            for value in OTHER_VALUES + [many + 1, many + 2, -1, -many, True, False, None, "0", [0], (0,), 10 ** 12]:
                if value in range(many + 1) and not isinstance(value, bool):
                    continue
                for name, formula in (("x", Q), (None, None)):
                    with self.assertRaises(InvalidNumber) as caught:
                        Context(ROWS[:many]).with_row(value, name, formula)
                    self.assertEqual(caught.exception.value, value)
                    self.assertIs(isinstance(caught.exception.value, bool), isinstance(value, bool))

    def test_with_a_wrong_row(self):
        for name, formula in (("", Q), ("X", Q), (None, Q), (1, Q), (["x"], Q), ("x", None), ("x", "p"),
                              ("x", nested(11)), ("x", hole("a")), ("x", part(0)), ("x", ["atom", "p"]), ("x", True)):
            for at in range(5):
                with self.assertRaises(InvalidRow) as caught:
                    Context(ROWS).with_row(at, name, formula)
                self.assertEqual(caught.exception.at, at)

    def test_with_row_of_too_many(self):
        full_context = Context(many_rows(40))
        self.assertEqual(len(Context(many_rows(39)).with_row(39, "x", P)), 40)
        for at in (0, 20, 40):
            with self.assertRaises(TooMany) as caught:
                full_context.with_row(at, "x", P)
            self.assertEqual(caught.exception.most, 40)
            with self.assertRaises(InvalidRow) as caught:
                full_context.with_row(at, "x", None)
            self.assertEqual(caught.exception.at, at)
        with self.assertRaises(InvalidNumber):
            full_context.with_row(41, "x", None)
        self.assertEqual(full_context.rows(), many_rows(40))

    def test_with_row_keeps_deeper_rows(self):
        context = deep_context(("d", DEEP))
        self.assertEqual(context.with_row(1, "x", Q).rows(), [("d", DEEP), ("x", Q)])
        with self.assertRaises(InvalidRow) as caught:
            context.with_row(1, "d", DEEP)
        self.assertEqual(caught.exception.at, 1)

    def test_without(self):
        context = Context(ROWS)
        for many in range(5):
            for places in combinations(range(4), many):
                rows = [row for at, row in enumerate(ROWS) if at not in places]
                self.assertEqual(context.without(*places).rows(), rows)
                self.assertEqual(context.without(*reversed(places)).rows(), rows)
                self.assertEqual(context.without(*places, *places).rows(), rows)
        self.assertEqual(context.without(2, 0, 2).rows(), [ROWS[1], ROWS[3]])
        self.assertEqual(context.rows(), ROWS)
        self.assertEqual(Context().without(), Context())
        self.assertEqual(deep_context(("d", DEEP), ROW).without(1).rows(), [("d", DEEP)])

    def test_without_only_the_rows_at_the_places(self):
        self.assertEqual(len(Context.of(ROW, ROW, ROW).without(1)), 2)

    def test_without_a_wrong_place(self):
        for value in OTHER_VALUES + [4, 5, -1, -4, True, False, "0", [0], (0,), 10 ** 12]:
            if value in range(4) and not isinstance(value, bool):
                continue
            for places in ((value,), (0, value), (value, 9), (1, 1, value, None)):
                with self.assertRaises(InvalidNumber) as caught:
                    Context(ROWS).without(*places)
                self.assertEqual(caught.exception.value, value)
                self.assertIs(isinstance(caught.exception.value, bool), isinstance(value, bool))
        with self.assertRaises(InvalidNumber):
            Context().without(0)

    def test_rows_of_both(self):
        one, other = Context(ROWS[:2]), Context(ROWS[2:])
        self.assertEqual((one + other).rows(), ROWS)
        self.assertEqual((other + one).rows(), ROWS[2:] + ROWS[:2])
        self.assertEqual([one.rows(), other.rows()], [ROWS[:2], ROWS[2:]])
        self.assertEqual(one + Context(), one)
        self.assertEqual(Context() + one, one)
        self.assertEqual((one + one).rows(), ROWS[:2] + ROWS[:2])
        self.assertEqual((deep_context(("d", DEEP)) + one).rows(), [("d", DEEP)] + ROWS[:2])

    def test_too_many_rows_of_both(self):
        for many in (0, 1, 20, 39, 40):
            self.assertEqual(len(Context(many_rows(many)) + Context(many_rows(40 - many))), 40)
        for one, other in ((1, 40), (40, 1), (20, 21), (40, 40)):
            with self.assertRaises(TooMany) as caught:
                Context(many_rows(one)) + Context(many_rows(other))
            self.assertEqual(caught.exception.most, 40)


class WiderContextsTest(unittest.TestCase):
    def test_places(self):
        context = Context(ROWS)
        self.assertEqual(context.places_of(Context()), [])
        self.assertEqual(context.places_of(context), [0, 1, 2, 3])
        self.assertEqual(context.places_of(Context.of(ROWS[1], ROWS[3])), [1, 3])
        self.assertEqual(context.places_of(other=Context.of(ROWS[3])), [3])
        self.assertIsNone(context.places_of(Context.of(ROWS[1], ROWS[0])))
        self.assertIsNone(context.places_of(Context.of(("h", Q))))
        self.assertIsNone(context.places_of(Context.of(("n", P))))
        self.assertIsNone(context.places_of(context + Context.of(ROW)))
        self.assertIsNone(Context().places_of(Context.of(ROW)))
        self.assertEqual(Context().places_of(Context()), [])

    def test_the_least_list_of_places(self):
        one, two = ("a", P), ("b", P)
        self.assertEqual(Context.of(one, one, two, one).places_of(Context.of(one)), [0])
        self.assertEqual(Context.of(two, one, one, two, one).places_of(Context.of(one, one)), [1, 2])
        self.assertEqual(Context.of(one, two, one, two).places_of(Context.of(two, two)), [1, 3])
        self.assertIsNone(Context.of(one, two).places_of(Context.of(one, one)))

    def test_all_small_contexts(self):
        rows = [("a", P), ("b", P)]
        contexts = [some for many in range(5) for some in product(rows, repeat=many)]
        for wide, own in product(contexts, contexts):
            lists = [list(places) for places in combinations(range(len(wide)), len(own))
                     if tuple(wide[at] for at in places) == own]
            expected = min(lists) if lists else None
            self.assertEqual(Context(wide).places_of(Context(own)), expected)
            self.assertIs(Context(wide).is_wider(Context(own)), expected is not None)

    def test_is_wider(self):
        context = Context(ROWS)
        self.assertIs(context.is_wider(context), True)
        self.assertIs(context.is_wider(Context()), True)
        self.assertIs(Context().is_wider(Context()), True)
        self.assertIs(Context().is_wider(context), False)
        for at in range(5):
            self.assertIs(context.with_row(at, "x", R).is_wider(context), True)
            self.assertIs(context.is_wider(context.with_row(at, "x", R)), False)
        for at in range(4):
            self.assertIs(context.is_wider(other=context.without(at)), True)
        self.assertIs(context.is_wider(Context(list(reversed(ROWS)))), False)

    def test_deeper_rows(self):
        context = deep_context(("d", DEEP), ROW)
        self.assertEqual(context.places_of(deep_context(("d", DEEP))), [0])
        self.assertIsNone(context.places_of(deep_context(("d", nested(16)))))


if __name__ == "__main__":
    unittest.main()
