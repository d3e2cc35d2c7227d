"""Promises 2 to 5: names, formulas, shapes and their texts."""

import unittest

from addedgrounds.contexts import Context
from addedgrounds.errors import InvalidFormula, InvalidShape
from addedgrounds.formulas import (
    chained, formula_text, is_formula, is_name, is_shape, read_formula, read_shape)
from tests.samples import FALSE, OTHER_VALUES, P, Q, R, atom, full, hole, nested, part, small_formulas

TEXTS = {
    "p": P, "abcdef": atom("abcdef"), "0": FALSE, "false": atom("false"), "hole": atom("hole"),
    "(p > q)": ("then", P, Q), "(p & q)": ("and", P, Q), "(p | q)": ("or", P, Q),
    "((p > 0) > (q & r))": ("then", ("then", P, FALSE), ("and", Q, R)),
    "(p | (q | (0 | p)))": ("or", P, ("or", Q, ("or", FALSE, P))),
}
SHAPE_TEXTS = {
    "?a": hole("a"), "?z": hole("z"), "(?a > ?a)": ("then", hole("a"), hole("a")),
    "((?b & p) | 0)": ("or", ("and", hole("b"), P), FALSE),
}
WRONG_TEXTS = [
    "", " ", "\n", "()", "(p)", "(0)", "p ", " p", "p\n", "\np", "p p", "pp q", "abcdefg", "P", "pQ", "p1", "1",
    "00", "0 ", "0p", "p0", "(p > q", "p > q)", "p > q", "(p > q))", "((p > q)", "(p >q)", "(p> q)", "(p>q)",
    "(p  > q)", "(p >  q)", "( p > q)", "(p > q )", "(p > q) ", " (p > q)", "(p > q)\n", "(p\n> q)", "(p >\nq)",
    "(p > )", "( > q)", "(p >)", "(p q)", "(p  q)", "(p >> q)", "(p -> q)", "(p = q)", "(p ^ q)", "(p && q)",
    "(p > q > r)", "(p > q & r)", "[p > q]", "(p > q]", "(P > q)", "(p > abcdefg)", "(p . q)", "h: p", "-",
    "((p & q) > r", "(p & q) > r)", "(p & q)(p & q)", "p, q", "(" * 3000, ")" * 3000, "p" * 3000,
    "(p > " * 500, "(" * 900 + "p", "?", "?A", "?ab", "? a", "?1", "??a", "?a ", " ?a", "a?", "(?a > ?)",
    "(?a > ?ab)", "(?a>?b)", "(?a > ?b", "?\n", "?a\n", "\u00e9", "(p \u2192 q)", "\uff10", "?\u00e9",
]


class NamesTest(unittest.TestCase):
    def test_names(self):
        for name in ("a", "z", "ab", "false", "then", "abcdef", "zzzzzz"):
            self.assertIs(is_name(name), True)

    def test_strings_that_are_no_names(self):
        for name in ("", "abcdefg", "A", "aB", "a1", "1", "a ", " a", "a\n", "a b", "_", "a_", "a-b", "`", "{", "@",
                     "?a", "0", "\u00e9", "a\u00e9", "\u00aa", "p" * 3000):
            self.assertIs(is_name(name), False, name)

    def test_other_values(self):
        for value in OTHER_VALUES + [P, ("a",), ["a"], b"a", Context()]:
            self.assertIs(is_name(value), False, value)


class FormulasTest(unittest.TestCase):
    def test_formulas(self):
        for formula in TEXTS.values():
            self.assertIs(is_formula(formula), True)

    def test_other_values(self):
        for value in OTHER_VALUES + ["", "p", "0", "h", ("h", P), Context(), Context.of(("h", P))]:
            self.assertIs(is_formula(value), False, value)

    def test_a_wrong_part_at_each_place(self):
        for depth in range(2, 11):
            for kind in ("then", "and", "or"):
                for wrong in (hole("a"), part(0), ["false"], atom("abcdefg"), None, "p", True, ()):
                    for left in (True, False):
                        self.assertIs(is_formula(nested(depth, wrong, kind, left)), False)

    def test_depth(self):
        for kind in ("then", "and", "or"):
            for leaf in (P, FALSE):
                for left in (True, False):
                    for depth in range(1, 11):
                        self.assertIs(is_formula(nested(depth, leaf, kind, left)), True)
                    for depth in (11, 12, 13, 400, 3000):
                        self.assertIs(is_formula(nested(depth, leaf, kind, left)), False)
        self.assertIs(is_formula(full(10)), True)
        self.assertIs(is_formula(full(11)), False)
        self.assertIs(is_formula(full(2000)), False)

    def test_holes_are_no_formulas(self):
        for shape in SHAPE_TEXTS.values():
            self.assertIs(is_formula(shape), False)


class ShapesTest(unittest.TestCase):
    def test_shapes(self):
        for shape in list(TEXTS.values()) + list(SHAPE_TEXTS.values()):
            self.assertIs(is_shape(shape), True)
        for letter in "abcdefghijklmnopqrstuvwxyz":
            self.assertIs(is_shape(hole(letter)), True)

    def test_other_values(self):
        for value in OTHER_VALUES + ["", "p", "?a", ("h", P), Context()]:
            self.assertIs(is_shape(value), False, value)

    def test_depth(self):
        for kind in ("then", "and", "or"):
            for leaf in (P, FALSE, hole("a")):
                for left in (True, False):
                    for depth in range(1, 6):
                        self.assertIs(is_shape(nested(depth, leaf, kind, left)), True)
                    for depth in (6, 7, 10, 11, 3000):
                        self.assertIs(is_shape(nested(depth, leaf, kind, left)), False)
        self.assertIs(is_shape(full(5, hole("b"))), True)
        self.assertIs(is_shape(full(6, hole("b"))), False)

    def test_a_wrong_part_at_each_place(self):
        for depth in range(2, 6):
            for wrong in (hole("A"), hole("ab"), hole(""), part(0), ["hole", "a"], atom(""), 1, None):
                for left in (True, False):
                    self.assertIs(is_shape(nested(depth, wrong, "or", left)), False)


class TextsTest(unittest.TestCase):
    def test_texts_of_formulas(self):
        for text, formula in TEXTS.items():
            self.assertEqual(formula_text(formula), text)
            self.assertEqual(read_formula(text), formula)

    def test_texts_of_shapes(self):
        for text, shape in list(TEXTS.items()) + list(SHAPE_TEXTS.items()):
            self.assertEqual(formula_text(shape), text)
            self.assertEqual(read_shape(text), shape)

    def test_holes_are_in_no_text_of_a_formula(self):
        for text in SHAPE_TEXTS:
            with self.assertRaises(InvalidFormula) as caught:
                read_formula(text)
            self.assertEqual(caught.exception.value, text)

    def test_each_formula_has_one_text(self):
        formulas = small_formulas([P, FALSE, atom("pq")], ("then", "and", "or"), 3)
        texts = [formula_text(formula) for formula in formulas]
        self.assertEqual(len(set(texts)), len(set(formulas)))
        self.assertEqual([read_formula(text) for text in texts], formulas)
        self.assertEqual([read_shape(text) for text in texts], formulas)

    def test_deep_texts(self):
        for left in (True, False):
            for depth in range(1, 11):
                formula = nested(depth, FALSE, "and", left)
                self.assertEqual(read_formula(formula_text(formula)), formula)
            for depth in range(1, 6):
                shape = nested(depth, hole("x"), "or", left)
                self.assertEqual(read_shape(formula_text(shape)), shape)
            eleven = nested(10, ("and", P, Q), "and", left)
            with self.assertRaises(InvalidFormula) as caught:
                formula_text(eleven)
            self.assertEqual(caught.exception.value, eleven)
            six = nested(6, hole("x"), "or", left)
            with self.assertRaises(InvalidFormula) as caught:
                formula_text(six)
            self.assertEqual(caught.exception.value, six)

    def test_texts_that_are_nested_too_deep(self):
        for many, read, error in ((10, read_formula, InvalidFormula), (5, read_shape, InvalidShape)):
            for left in (True, False):
                texts = {}
                for depth in (many, many + 1, many + 2, 400):
                    opening = "(" * (depth - 1) if left else "(q & " * (depth - 1)
                    closing = " & q)" * (depth - 1) if left else ")" * (depth - 1)
                    texts[depth] = opening + "p" + closing
                self.assertEqual(read(texts[many]), nested(many, P, "and", left))
                for depth in (many + 1, many + 2, 400):
                    with self.assertRaises(error) as caught:
                        read(texts[depth])
                    self.assertEqual(caught.exception.value, texts[depth])

    def test_a_large_text_that_was_returned(self):
        formula = full(10, atom("abcdef"))
        text = formula_text(formula)
        self.assertGreater(len(text), 3000)
        self.assertEqual(read_formula(text), formula)

    def test_wrong_texts(self):
        for text in WRONG_TEXTS:
            with self.assertRaises(InvalidFormula) as caught:
                read_formula(text)
            self.assertEqual(caught.exception.value, text)
            with self.assertRaises(InvalidShape) as caught:
                read_shape(text)
            self.assertEqual(caught.exception.value, text)

    def test_one_sign_too_many_or_too_few_or_another(self):
        text = "((p > 0) & (q | ?a))"
        right = []
        for at in range(len(text) + 1):
            for sign in ("", "(", ")", " ", "\n", "0", "p", "?", ">", "&", "|", "A"):
                for end in (at, at + 1):
                    other = text[:at] + sign + text[end:]
                    try:
                        shape = read_shape(other)
                    except InvalidShape as error:
                        self.assertEqual(error.value, other)
                    else:
                        self.assertEqual(formula_text(shape), other)
                        right.append(other)
        expected = [
            "((0 > 0) & (q | ?a))", "((p & 0) & (q | ?a))", "((p > 0) & (0 | ?a))", "((p > 0) & (p | ?a))",
            "((p > 0) & (p | ?a))", "((p > 0) & (q & ?a))", "((p > 0) & (q > ?a))", "((p > 0) & (q | ?a))",
            "((p > 0) & (q | ?p))", "((p > 0) & (q | a))", "((p > 0) & (q | pa))", "((p > 0) & (qp | ?a))",
            "((p > 0) > (q | ?a))", "((p > 0) | (q | ?a))", "((p > p) & (q | ?a))", "((p | 0) & (q | ?a))",
            "((pp > 0) & (q | ?a))", "((p > 0) & (pq | ?a))", "((?p > 0) & (q | ?a))", "((p > 0) & (?q | ?a))"]
        self.assertEqual(sorted(set(right)), sorted(set(expected)))

    def test_values_that_are_no_texts(self):
        for value in OTHER_VALUES + [P, ("then", P, Q), b"p", Context(), ["p"], ("p",)]:
            with self.assertRaises(InvalidFormula) as caught:
                read_formula(value)
            self.assertEqual(caught.exception.value, value)
            with self.assertRaises(InvalidShape) as caught:
                read_shape(value)
            self.assertEqual(caught.exception.value, value)

    def test_values_that_have_no_text(self):
        for value in OTHER_VALUES + ["", "p", "0", ("h", P), Context(), chained([P] * 200, Q), full(1500)]:
            with self.assertRaises(InvalidFormula):
                formula_text(value)

    def test_the_value_of_the_error(self):
        for value in OTHER_VALUES:
            with self.assertRaises(InvalidFormula) as caught:
                formula_text(value)
            self.assertEqual(caught.exception.value, value)
            self.assertIs(isinstance(caught.exception.value, bool), isinstance(value, bool))


if __name__ == "__main__":
    unittest.main()
