"""Promises 6 to 8: holes_of, unified, filled, atoms_of and chained."""

import unittest
from itertools import product

from addedgrounds.errors import TooLarge
from addedgrounds.formulas import (
    atoms_of, chained, filled, formula_text, holes_of, read_formula, read_shape, unified)
from tests.samples import FALSE, P, Q, R, atom, full, hole, nested, part, parts_in, small_formulas, unknowns_of

KINDS = ("then", "and", "or")


def with_holes(shape, holes):
    if shape[0] == "hole":
        return holes[shape[1]]
    if len(shape) == 3:
        return (shape[0], with_holes(shape[1], holes), with_holes(shape[2], holes))
    return shape


def pairs_of(pairs, kind="and"):
    """Two formulas that are equal exactly if the two of each pair are equal."""
    one, other = pairs[-1]
    if len(pairs) > 1:
        half = len(pairs) // 2
        first, second = pairs_of(pairs[:half], kind), pairs_of(pairs[half:], kind)
        one, other = (kind, first[0], second[0]), (kind, first[1], second[1])
    return one, other


class HolesTest(unittest.TestCase):
    def check(self, shape, formula, expected):
        self.assertEqual(holes_of(read_shape(shape), read_formula(formula)), expected)

    def test_example(self):
        self.check("(?a > ?a)", "(p > p)", {"a": P})
        self.check("(?a > ?a)", "(p > q)", None)

    def test_formulas_of_a_shape(self):
        self.check("?a", "p", {"a": P})
        self.check("?z", "0", {"z": FALSE})
        self.check("?a", "((p > q) | 0)", {"a": read_formula("((p > q) | 0)")})
        self.check("(?a & ?b)", "(p & (q > r))", {"a": P, "b": ("then", Q, R)})
        self.check("(?b & ?a)", "(p & p)", {"a": P, "b": P})
        self.check("((?a > ?b) & (?b > ?a))", "((p > q) & (q > p))", {"a": P, "b": Q})
        self.check("((?a > 0) | (p & ?a))", "(((p | q) > 0) | (p & (p | q)))", {"a": ("or", P, Q)})

    def test_formulas_of_no_such_shape(self):
        self.check("(?a & ?b)", "(p > q)", None)
        self.check("(?a & ?b)", "(p | q)", None)
        self.check("(?a & ?b)", "p", None)
        self.check("(?a & ?b)", "0", None)
        self.check("((?a > ?b) & (?b > ?a))", "((p > q) & (p > q))", None)
        self.check("(?a | (p & ?a))", "(q | (p & (q & q)))", None)
        self.check("(?a > (?a > q))", "(p > (p > p))", None)
        self.check("(?a > p)", "(p > q)", None)
        self.check("(?a > 0)", "(p > q)", None)

    def test_a_shape_without_holes_is_of_itself_alone(self):
        formulas = small_formulas([P, FALSE], KINDS, 2)
        for shape, formula in product(formulas, formulas):
            self.assertEqual(holes_of(shape, formula), {} if shape == formula else None)

    def test_all_small_shapes(self):
        formulas = small_formulas([P, FALSE], ("then", "or"), 3)
        shapes = small_formulas([P, hole("a"), hole("b")], ("then", "or"), 2)
        for shape, formula in product(shapes, formulas):
            told = holes_of(shape, formula)
            letters = [letter for letter in "ab" if f"?{letter}" in formula_text(shape)]
            inner = small_formulas([P, FALSE], ("then", "or"), 2)
            some = [formula] if shape[0] == "hole" else inner
            expected = None
            for values in product(some, repeat=len(letters)):
                holes = dict(zip(letters, values))
                if with_holes(shape, holes) == formula:
                    expected = holes
            self.assertEqual(told, expected)

    def test_holes_at_each_level(self):
        for depth in range(1, 6):
            for left in (True, False):
                shape = nested(depth, hole("x"), "or", left)
                for inner in (P, FALSE, ("or", P, Q), nested(6)):
                    formula = nested(depth, inner, "or", left)
                    self.assertEqual(holes_of(shape, formula), {"x": inner})
        self.assertEqual(holes_of(full(5, hole("x")), full(5, nested(6))), {"x": nested(6)})
        self.assertIsNone(holes_of(full(5, hole("x")), full(4, Q)))

    def test_the_dict_is_new(self):
        shape = ("then", hole("a"), P)
        holes_of(shape, ("then", Q, P))["b"] = R
        self.assertEqual(holes_of(shape, ("then", Q, P)), {"a": Q})


class UnifiedTest(unittest.TestCase):
    def check_equal(self, one, other):
        table = unified(one, other)
        self.assertIsNotNone(table)
        self.assertEqual(filled(one, table), filled(other, table))
        unknowns = unknowns_of(one) | unknowns_of(other)
        self.assertLessEqual(set(table), unknowns)
        for formula in table.values():
            self.assertFalse(unknowns_of(formula) & set(table))
            self.assertLessEqual(unknowns_of(formula), unknowns)
        return table

    def test_example(self):
        one, other = ("and", part(0), P), ("and", FALSE, P)
        self.assertEqual(unified(one, other), {0: FALSE})
        self.assertEqual(unified(other, one), {0: FALSE})

    def test_formulas_without_unknown_parts(self):
        formulas = small_formulas([P, Q, FALSE], KINDS, 2)
        for one, other in product(formulas, formulas):
            self.assertEqual(unified(one, other), {} if one == other else None)
        self.assertEqual(unified(full(10), full(10)), {})

    def test_unknown_parts_on_both_sides(self):
        self.assertEqual(unified(part(3), P), {3: P})
        self.assertEqual(unified(P, part(3)), {3: P})
        self.assertEqual(unified(part(3), part(3)), {})
        self.assertIn(unified(part(3), part(4)), ({3: part(4)}, {4: part(3)}))
        self.assertEqual(unified(("then", part(0), P), ("then", Q, part(1))), {0: Q, 1: P})
        self.assertEqual(unified(("then", part(0), part(1)), ("then", part(1), P)), {0: P, 1: P})
        self.assertEqual(
            unified(("then", part(0), Q), ("then", ("and", part(1), P), part(1))), {0: ("and", Q, P), 1: Q})

    def test_numbers_of_unknown_parts(self):
        for number in (0, 1, 7, 999999999999):
            self.assertEqual(unified(part(number), FALSE), {number: FALSE})

    def test_the_same_unknown_part_at_several_places(self):
        one = ("and", part(0), part(0))
        self.assertEqual(unified(one, ("and", P, P)), {0: P})
        self.assertIsNone(unified(one, ("and", P, Q)))
        table = self.check_equal(one, ("and", ("or", part(1), P), ("or", Q, part(2))))
        self.assertEqual(table, {0: ("or", Q, P), 1: Q, 2: P})
        self.assertIsNone(unified(one, ("and", ("or", part(1), P), ("and", Q, part(2)))))

    def test_unknown_parts_that_stay_unknown(self):
        table = self.check_equal(("and", part(0), part(1)), ("and", part(2), part(3)))
        self.assertEqual(len(table), 2)
        table = self.check_equal(pairs_of([(part(k), part(k + 1)) for k in range(7)])[0],
                                 pairs_of([(part(k), part(k + 1)) for k in range(7)])[1])
        self.assertEqual(len(table), 7)
        self.assertEqual(len(set(table.values())), 1)
        table = self.check_equal(("or", part(0), part(0)), ("or", ("and", part(1), P), ("and", part(2), P)))
        self.assertEqual(len(table), 2)

    def test_an_unknown_part_that_would_hold_itself(self):
        for kind in KINDS:
            self.assertIsNone(unified(part(0), (kind, part(0), P)))
            self.assertIsNone(unified((kind, P, part(0)), part(0)))
            self.assertIsNone(unified(part(0), nested(9, part(0), kind)))
            self.assertIsNone(unified((kind, part(0), part(1)), (kind, (kind, part(1), P), (kind, Q, part(0)))))
        several = [(part(0), ("and", part(1), P)), (part(1), ("or", P, part(2))), (part(2), ("then", part(0), Q))]
        self.assertIsNone(unified(*pairs_of(several)))
        self.check_equal(*pairs_of(several[:2]))
        self.assertIsNone(unified(*pairs_of([(part(0), part(1)), (part(0), ("and", part(1), P))])))

    def test_formulas_that_no_filling_makes_equal(self):
        clashes = [(P, Q), (P, FALSE), (("and", P, Q), ("or", P, Q)), (("and", P, Q), P), (FALSE, ("then", P, P)),
                   (atom("then"), ("then", P, Q))]
        for one, other in clashes:
            self.assertIsNone(unified(one, other))
            self.assertIsNone(unified(other, one))
            self.assertIsNone(unified(("then", part(0), part(0)), ("then", one, other)))
            self.assertIsNone(unified(*pairs_of([(part(0), one), (part(1), other), (part(0), part(1))])))

    def test_all_small_formulas(self):
        """The dict makes them equal, and each other filling comes from it."""
        formulas = small_formulas([P, part(0), part(1)], ("then", "or"), 2)
        formulas += [("then", ("or", part(0), part(1)), part(0)), ("then", part(1), ("or", P, part(0))),
                     ("then", part(1), ("or", part(1), part(0))), ("then", ("or", P, part(1)), ("or", part(0), P))]
        values = small_formulas([P, Q], ("then", "or"), 2)
        fillings = [{0: one, 1: other} for one, other in product(values, values)]
        for one, other in product(formulas, formulas):
            table = unified(one, other)
            fitting = [some for some in fillings if filled(one, some) == filled(other, some)]
            if table is None:
                self.assertEqual(fitting, [])
                continue
            self.check_equal(one, other)
            for some in fitting:
                for number in (0, 1):
                    self.assertEqual(filled(filled(part(number), table), some), some[number])

    def doubled(self, many, last=P):
        """Pairs in which each unknown part is the next one, twice."""
        pairs = [(part(k), ("and", part(k + 1), part(k + 1))) for k in range(many)]
        return pairs + [(part(many), last)]

    def test_chains_that_double(self):
        for many in range(1, 7):
            table = self.check_equal(*pairs_of(self.doubled(many)))
            self.assertEqual(table[0], full(many + 1))
            self.assertEqual(table[many], P)
        for many in (7, 8, 20, 100):
            for pairs in (self.doubled(many), list(reversed(self.doubled(many)))):
                with self.assertRaises(TooLarge) as caught:
                    unified(*pairs_of(pairs))
                self.assertEqual(caught.exception.most, 200)

    def test_chains_with_an_end_that_stays_unknown(self):
        for many in range(1, 7):
            table = self.check_equal(*pairs_of(self.doubled(many)[:-1]))
            self.assertEqual(table[0], full(many + 1, part(many)))
        with self.assertRaises(TooLarge):
            unified(*pairs_of(self.doubled(7)[:-1]))

    def test_200_parts(self):
        # Each sign takes two sides, so that a formula has an odd number of parts:
        # 199 is the most that may be, and 201 the least that may not.
        def sized(parts):
            formula = P
            for _ in range(parts // 2):
                formula = ("or", formula, Q)
            return formula
        self.assertEqual([parts_in(sized(199)), parts_in(sized(201))], [199, 201])
        self.assertEqual(unified(part(0), sized(199)), {0: sized(199)})
        for one, other in ((part(0), sized(201)), (sized(201), part(0))):
            with self.assertRaises(TooLarge) as caught:
                unified(one, other)
            self.assertEqual(caught.exception.most, 200)

    def test_200_parts_by_doubling(self):
        # A sign, 127 parts that come of doubling, and 71 or 73 parts beside them.
        for signs, parts in ((35, 199), (36, 201)):
            pairs = self.doubled(6) + [(part(30), ("and", part(0), self.side_of(signs)))]
            if parts == 199:
                table = self.check_equal(*pairs_of(pairs))
                self.assertEqual(parts_in(table[30]), parts)
            else:
                with self.assertRaises(TooLarge):
                    unified(*pairs_of(pairs))

    def side_of(self, signs):
        """A formula with so many signs and 2 * signs + 1 parts, nested few deep."""
        if signs == 0:
            return P
        return ("or", self.side_of((signs - 1) // 2), self.side_of(signs - 1 - (signs - 1) // 2))

    def test_only_the_formulas_of_the_dict_are_counted(self):
        one = ("and", part(0), full(9))
        self.assertEqual(unified(one, ("and", P, full(9))), {0: P})
        chain = self.doubled(6)
        table = self.check_equal(*pairs_of(chain + chain))
        self.assertEqual(parts_in(table[0]), 127)

    def test_large_formulas_that_cannot_be_equal(self):
        for pairs in (self.doubled(100) + [(P, Q)], [(P, Q)] + self.doubled(100),
                      self.doubled(100)[:-1] + [(part(100), ("or", part(0), P))],
                      self.doubled(100) + [(part(50), Q)]):
            self.assertIsNone(unified(*pairs_of(pairs)))
        twice = self.doubled(60) + [(part(100 + at), ("and", part(101 + at), part(101 + at))) for at in range(60)]
        self.assertIsNone(unified(*pairs_of(twice + [(part(0), part(100)), (part(160), Q)])))
        with self.assertRaises(TooLarge):
            unified(*pairs_of(twice + [(part(0), part(100))]))

    def test_many_unknown_parts(self):
        chain = [(part(k), ("and", part(k + 1), P)) for k in range(90)] + [(part(90), Q)]
        table = self.check_equal(*pairs_of(chain))
        self.assertEqual(parts_in(table[0]), 181)
        with self.assertRaises(TooLarge):
            unified(*pairs_of([(part(k), ("and", part(k + 1), P)) for k in range(120)]))
        self.assertIsNone(unified(*pairs_of([(part(k), ("and", part((k + 1) % 250), P)) for k in range(250)])))

    def test_equal_calls_return_equal_results(self):
        one, other = pairs_of([(part(0), part(1)), (part(2), part(1)), (part(3), ("or", part(0), part(4)))])
        self.assertEqual(unified(one, other), unified(one, other))
        unified(one, other)[9] = P
        self.assertNotIn(9, unified(one, other))


class FilledTest(unittest.TestCase):
    def test_unknown_parts(self):
        self.assertEqual(filled(part(0), {0: P}), P)
        self.assertEqual(filled(part(0), {1: P}), part(0))
        self.assertEqual(filled(part(0), {}), part(0))
        formula = ("then", ("and", part(0), part(1)), ("or", part(0), ("and", Q, FALSE)))
        expected = ("then", ("and", ("or", P, Q), part(1)), ("or", ("or", P, Q), ("and", Q, FALSE)))
        self.assertEqual(filled(formula, {0: ("or", P, Q), 2: R}), expected)

    def test_formulas_without_unknown_parts(self):
        for formula in small_formulas([P, FALSE], KINDS, 2) + [nested(10), full(10)]:
            self.assertEqual(filled(formula, {0: Q, 1: R}), formula)

    def test_all_at_once(self):
        self.assertEqual(filled(("and", part(0), part(1)), {0: part(1), 1: part(0)}), ("and", part(1), part(0)))
        self.assertEqual(filled(part(0), {0: ("or", part(0), part(1)), 1: P}), ("or", part(0), part(1)))
        self.assertEqual(filled(("then", part(0), part(1)), {0: ("or", part(1), P), 1: Q}),
                         ("then", ("or", part(1), P), Q))

    def test_a_part_at_each_level(self):
        for depth in range(1, 11):
            for left in (True, False):
                self.assertEqual(filled(nested(depth, part(5), "and", left), {5: R}), nested(depth, R, "and", left))

    def test_the_dict_is_not_changed(self):
        table = {0: part(1), 1: P}
        filled(("and", part(0), part(2)), table)
        self.assertEqual(table, {0: part(1), 1: P})


class AtomsTest(unittest.TestCase):
    def test_atoms(self):
        for text, expected in (("p", ["p"]), ("0", []), ("(q > p)", ["p", "q"]), ("(p & p)", ["p"]), ("(0 | 0)", []),
                               ("((b > ab) | (a & (0 > b)))", ["a", "ab", "b"]), ("(zz > (z | a))", ["a", "z", "zz"])):
            self.assertEqual(atoms_of(read_formula(text)), expected)

    def test_atoms_of_shapes(self):
        for text, expected in (("?a", []), ("(?p > p)", ["p"]), ("((?a | q) & (b > ?a))", ["b", "q"])):
            self.assertEqual(atoms_of(read_shape(text)), expected)

    def test_the_list_is_new(self):
        atoms_of(P).append("x")
        self.assertEqual(atoms_of(P), ["p"])

    def test_deepest(self):
        self.assertEqual(atoms_of(nested(10, R)), ["q", "r"])
        self.assertEqual(atoms_of(full(10, R)), ["r"])


class ChainedTest(unittest.TestCase):
    def test_the_first_formula_stands_outside(self):
        self.assertEqual(chained([], P), P)
        self.assertEqual(chained([P], Q), ("then", P, Q))
        self.assertEqual(chained([P, Q], R), ("then", P, ("then", Q, R)))
        self.assertEqual(chained([FALSE, FALSE, ("and", P, Q)], ("or", P, Q)),
                         ("then", FALSE, ("then", FALSE, ("then", ("and", P, Q), ("or", P, Q)))))

    def test_a_tuple_may_be_passed(self):
        self.assertEqual(chained((P, Q), R), chained([P, Q], R))

    def test_the_list_is_not_changed(self):
        formulas = [P, Q]
        chained(formulas, R)
        self.assertEqual(formulas, [P, Q])

    def test_many_deep_formulas(self):
        told = chained([nested(10)] * 200, nested(10, R))
        for _ in range(200):
            self.assertEqual(told[:2], ("then", nested(10)))
            told = told[2]
        self.assertEqual(told, nested(10, R))


if __name__ == "__main__":
    unittest.main()
