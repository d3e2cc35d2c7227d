"""Values for the tests."""

from itertools import product


def atom(name):
    return ("atom", name)


def part(number):
    return ("part", number)


def hole(letter):
    return ("hole", letter)


FALSE = ("false",)
P = atom("p")
Q = atom("q")
R = atom("r")


def nested(depth, leaf=P, kind="then", left=True):
    """A formula that is nested this deep, with the leaf at the deepest place."""
    formula = leaf
    for _ in range(depth - 1):
        formula = (kind, formula, Q) if left else (kind, Q, formula)
    return formula


def full(depth, leaf=P, kind="and"):
    """A formula with the same leaf at each of its deepest places."""
    formula = leaf
    for _ in range(depth - 1):
        formula = (kind, formula, formula)
    return formula


def deep_list(depth):
    value = []
    for _ in range(depth - 1):
        value = [value]
    return value


def deep_tuple(depth):
    value = ()
    for _ in range(depth - 1):
        value = (value,)
    return value


# None of these is a name, a formula, a shape, or a text of a formula, a shape or a row.
OTHER_VALUES = [
    0, 1, -1, 999999999999, True, False, None, "\n", " ", "?", "()", "h:",
    (), [], ("",), [""], ("p",), (0,), (None,), ("atom",), ("atom", 1), ("atom", None),
    ("atom", ("atom", "p")), ("atom", "p", "q"), ("atom", "P"), ("atom", ""), ("atom", "abcdefg"),
    ("atom", "p", "q", "r"), ("hole", "a", "b"), ("hole", "a", "b", "c"), ("false", "false"), ("false",) * 4,
    ["atom", "p"], ["false"], ("false", "p"), ("false", ()), ("true",), (("false",),),
    ("then", P), ("then", P, Q, R), ("then", P, 1), ("then", None, P), ("implies", P, Q),
    ("then", ["atom", "p"], P), ["then", P, Q], ("and", P, ["atom", "q"]), (1, P, Q), (None, P, Q),
    (["then"], P, Q), (("then",), P, Q), ("part", 0), ("then", ("part", 0), P),
    ("hole",), ("hole", ""), ("hole", "A"), ("hole", "ab"), ("hole", 1), ("hole", None), ["hole", "a"],
    ("h", ["atom", "p"]), ["h", P], ("h", P, Q), ("h",), ("H", P), ("", P), ("abcdefg", P),
    (1, P), (True, P), (None, P), (P, "h"), deep_list(12), deep_tuple(12), [deep_tuple(11)],
    (deep_list(11),), (True, [None, (1, ["x"])]),
]


def small_formulas(leaves, kinds, depth):
    """All formulas over these leaves and signs that are nested at most this deep."""
    found = list(leaves)
    for _ in range(depth - 1):
        found = list(leaves) + [(kind, one, other) for kind, one, other in product(kinds, found, found)]
    return found


def parts_in(formula):
    """The number of the parts of a formula."""
    return 1 + sum(parts_in(side) for side in formula[1:]) if len(formula) == 3 else 1


def unknowns_of(formula):
    """The set of the numbers of the unknown parts of a formula."""
    if formula[0] == "part":
        return {formula[1]}
    if len(formula) == 3:
        return unknowns_of(formula[1]) | unknowns_of(formula[2])
    return set()
