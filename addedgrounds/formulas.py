"""Formulas and shapes: their forms, their texts, and how they fit one another."""

from addedgrounds.equating import Web
from addedgrounds.errors import InvalidFormula, InvalidShape, TooLarge

LETTERS = "abcdefghijklmnopqrstuvwxyz"
LONGEST_NAME = 6
FORMULA_DEPTH = 10
SHAPE_DEPTH = 5
MOST_PARTS = 200
JOINTS = ("then", "and", "or")
SIGNS = {"then": " > ", "and": " & ", "or": " | "}
KINDS = {" > ": "then", " & ": "and", " | ": "or"}


def is_letter(value):
    """Whether a value is one lowercase letter."""
    return isinstance(value, str) and len(value) == 1 and value in LETTERS


def is_name(value):
    """Whether any value is a name."""
    if not isinstance(value, str) or not 1 <= len(value) <= LONGEST_NAME:
        return False
    return all([is_letter(letter) for letter in value])


def is_formula(value):
    """Whether any value is a formula, nested at most 10 deep."""
    return is_built(value, FORMULA_DEPTH, False)


def is_shape(value):
    """Whether any value is a shape, nested at most 5 deep."""
    return is_built(value, SHAPE_DEPTH, True)


def is_built(value, depth, holes):
    """Whether a value is a formula within a depth, with or without holes."""
    if depth == 0 or not isinstance(value, tuple):
        return False
    if len(value) == 3:
        return value[0] in JOINTS and all([is_built(side, depth - 1, holes) for side in value[1:]])
    if len(value) == 2:
        return is_leaf(value, holes)
    return value == ("false",)


def is_leaf(value, holes):
    """Whether a pair is an atom or, where holes may stand, a hole."""
    if value[0] == "atom":
        return is_name(value[1])
    return holes and value[0] == "hole" and is_letter(value[1])


def formula_text(formula):
    """The text of a formula or a shape; raises InvalidFormula for any other value."""
    if not is_formula(formula) and not is_shape(formula):
        raise InvalidFormula(formula)
    return text_of(formula)


def text_of(formula):
    """The text of a formula or a shape, also of a deeper formula that was returned."""
    if len(formula) == 3:
        return f"({text_of(formula[1])}{SIGNS[formula[0]]}{text_of(formula[2])})"
    if formula[0] == "atom":
        return formula[1]
    if formula[0] == "hole":
        return f"?{formula[1]}"
    return "0"


def read_formula(text):
    """The formula with a text; raises InvalidFormula for any other value."""
    formula = parsed(text, FORMULA_DEPTH, False)
    if formula is None:
        raise InvalidFormula(text)
    return formula


def read_shape(text):
    """The shape with a text; raises InvalidShape for any other value."""
    shape = parsed(text, SHAPE_DEPTH, True)
    if shape is None:
        raise InvalidShape(text)
    return shape


def parsed(text, depth, holes):
    """The formula within a depth with a text, or None for any other value."""
    if not isinstance(text, str):
        return None
    found = parsed_at(text, 0, depth, holes)
    if found is None or found[1] != len(text):
        return None
    return found[0]


def parsed_at(text, at, depth, holes):
    """The formula at a place of a text and the place behind it, or None."""
    # The depth is asked ahead of the signs, so that no text, however many
    # brackets it opens, makes the calls deeper than the depth.
    if depth == 0:
        return None
    sign = text[at:at + 1]
    if sign == "(":
        return parsed_joint(text, at + 1, depth - 1, holes)
    if sign == "0":
        return ("false",), at + 1
    if sign == "?":
        return parsed_hole(text, at + 1) if holes else None
    return parsed_atom(text, at)


def parsed_joint(text, at, depth, holes):
    """The formula whose two sides begin at a place, behind its bracket, or None."""
    left = parsed_at(text, at, depth, holes)
    if left is None:
        return None
    behind = left[1] + 3
    kind = KINDS.get(text[left[1]:behind])
    if kind is None:
        return None
    right = parsed_at(text, behind, depth, holes)
    if right is None or text[right[1]:right[1] + 1] != ")":
        return None
    return (kind, left[0], right[0]), right[1] + 1


def parsed_hole(text, at):
    """The hole whose letter stands at a place, or None."""
    letter = text[at:at + 1]
    return (("hole", letter), at + 1) if is_letter(letter) else None


def parsed_atom(text, at):
    """The atom that begins at a place, or None."""
    end = at
    while is_letter(text[end:end + 1]):
        end += 1
    name = text[at:end]
    return (("atom", name), end) if is_name(name) else None


def atoms_of(formula):
    """The ascending list of the atoms of a formula or shape, without duplicates."""
    found = []
    waiting = [formula]
    while waiting:
        part = waiting.pop()
        if part[0] == "atom":
            found.append(part[1])
        elif len(part) == 3:
            waiting.extend(part[1:])
    return sorted(set(found))


def chained(formulas, goal):
    """The goal behind a ("then", formula, ..) for each formula, the first one outside."""
    told = goal
    for formula in reversed(list(formulas)):
        told = ("then", formula, told)
    return told


def holes_of(shape, formula):
    """A dict from hole letters to formulas that make a shape the formula, or None."""
    holes = {}
    waiting = [(shape, formula)]
    while waiting:
        part, worth = waiting.pop()
        if part[0] == "hole":
            if holes.setdefault(part[1], worth) != worth:
                return None
        elif len(part) == 3:
            if part[0] != worth[0]:
                return None
            waiting.extend([(part[1], worth[1]), (part[2], worth[2])])
        elif part != worth:
            return None
    return holes


def unified(one, other):
    """A dict from unknown parts to formulas that makes two formulas equal, or None."""
    web = Web()
    if not web.unite(web.grow(one), web.grow(other)):
        return None
    order = web.ordered()
    if order is None:
        return None
    bound, sizes = web.bound(), web.sizes(order)
    if any([sizes[root] > MOST_PARTS for part, root in bound]):
        raise TooLarge(MOST_PARTS)
    formulas = web.formulas(order)
    return {part: formulas[root] for part, root in bound}


def filled(formula, table):
    """A formula with those of a dict in place of its unknown parts, all at once."""
    if formula[0] == "part":
        return table.get(formula[1], formula)
    if len(formula) == 3:
        return (formula[0], filled(formula[1], table), filled(formula[2], table))
    return formula
