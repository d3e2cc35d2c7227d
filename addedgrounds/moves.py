"""What the commands without blocks do with the first goal of a run.

Each function takes the run, its first goal, a command and its path, tells the run how a
term of the goal comes from terms of other goals, and returns the goals in its place.
"""

from addedgrounds.errors import Refused
from addedgrounds.formulas import is_built
from addedgrounds.looks import ANY, OTHER
from addedgrounds.terms import FALSE, LET_DEPTH


def row_of(run, goal, reference, path):
    """The row that a reference finds; refuses if there is none."""
    return goal.entries[place_of(run, goal, reference, path)]


def place_of(run, goal, reference, path):
    """The place of the row that a reference finds; refuses if there is none."""
    at = run.look(goal, reference)
    if at is None:
        raise Refused(path, "none")
    return at


def sides_of(run, formula, word, path):
    """The sides of a formula with this word; refuses another formula."""
    if not run.is_of(formula, (word, ANY, OTHER)):
        raise Refused(path, "shape")
    return formula[1], formula[2]


def intro(run, goal, command, path):
    """Makes what the target assumes a row."""
    one, other = sides_of(run, goal.target, "then", path)
    label, spot = run.fresh(), run.fresh()
    run.builds(goal, ("fun", label, ("spot", spot)))
    return [goal.with_entry(command[1], one, ("row", label)).aimed(other, spot)]


def exact(run, goal, command, path):
    """Closes a goal by a row."""
    row = row_of(run, goal, command[1], path)
    if not run.is_of(row[1], goal.target):
        raise Refused(path, "other")
    run.builds(goal, row[2])
    return []


def apply_row(run, goal, command, path):
    """Aims at what a row assumes."""
    row = row_of(run, goal, command[1], path)
    if not run.is_of(row[1], ("then", ANY, goal.target)):
        raise Refused(path, "other")
    spot = run.fresh()
    run.builds(goal, ("call", row[2], ("spot", spot)))
    return [goal.aimed(row[1][1], spot)]


def open_row(run, goal, command, path):
    """Adds the sides of a row, or parts or closes the goal by it."""
    row = row_of(run, goal, command[1], path)
    if run.is_of(row[1], FALSE):
        run.builds(goal, ("never", row[2]))
        return []
    if run.is_of(row[1], ("and", ANY, OTHER)):
        grown = goal.with_entry(command[2], row[1][1], ("first", row[2]))
        return [grown.with_entry(command[3], row[1][2], ("second", row[2]))]
    one, other = sides_of(run, row[1], "or", path)
    return part_by_row(run, goal, row, (command[2], one), (command[3], other))


def part_by_row(run, goal, row, left, right):
    """Two goals, each with one side of a row, a pair of a name and a formula."""
    label, spot = run.fresh(), run.fresh()
    other_label, other_spot = run.fresh(), run.fresh()
    run.builds(goal, ("either", row[2], label, ("spot", spot), other_label, ("spot", other_spot)))
    one = goal.with_entry(left[0], left[1], ("row", label)).aimed(goal.target, spot)
    other = goal.with_entry(right[0], right[1], ("row", other_label)).aimed(goal.target, other_spot)
    return [one, other]


def use(run, goal, command, path):
    """Adds what a row gives by another one."""
    row = row_of(run, goal, command[1], path)
    given = row_of(run, goal, command[2], path)
    one, other = sides_of(run, row[1], "then", path)
    if not run.is_of(given[1], one):
        raise Refused(path, "other")
    told = ("call", row[2], given[2])
    # A term may bind no formula that is nested deeper; its row then has the whole
    # term. Other rows have labels, as rows that are used twice each time would
    # otherwise have terms of many thousand parts.
    if not is_built(other, LET_DEPTH, False):
        return [goal.with_entry(command[3], other, told)]
    label, spot = run.fresh(), run.fresh()
    run.builds(goal, ("let", label, other, told, ("spot", spot)))
    return [goal.with_entry(command[3], other, ("row", label)).aimed(goal.target, spot)]


def drop(run, goal, command, path):
    """Removes a row."""
    return [goal.cut(place_of(run, goal, command[1], path))]


def move(run, goal, command, path):
    """Puts a row behind all others."""
    at = place_of(run, goal, command[1], path)
    name, formula, told = goal.entries[at]
    return [goal.cut(at).with_entry(name, formula, told)]


def split(run, goal, command, path):
    """Aims at both sides of the target, one after the other."""
    one, other = sides_of(run, goal.target, "and", path)
    spot, other_spot = run.fresh(), run.fresh()
    run.builds(goal, ("pair", ("spot", spot), ("spot", other_spot)))
    return [goal.aimed(one, spot), goal.aimed(other, other_spot)]


def choose(run, goal, command, path):
    """Aims at one side of the target."""
    one, other = sides_of(run, goal.target, "or", path)
    spot = run.fresh()
    run.builds(goal, (command[0], ("spot", spot)))
    return [goal.aimed(one if command[0] == "left" else other, spot)]


def absurd(run, goal, command, path):
    """Aims at what nothing shows but a contradiction."""
    spot = run.fresh()
    run.builds(goal, ("never", ("spot", spot)))
    return [goal.aimed(FALSE, spot)]


def have(run, goal, command, path):
    """Aims at a formula first, and then has it as a row."""
    name, formula = command[1], command[2]
    label, spot, other_spot = run.fresh(), run.fresh(), run.fresh()
    run.builds(goal, ("let", label, formula, ("spot", spot), ("spot", other_spot)))
    return [goal.aimed(formula, spot), goal.with_entry(name, formula, ("row", label)).aimed(goal.target, other_spot)]


def recall(run, goal, command, path):
    """Adds a fact as a row."""
    formula = run.fact(command[1])
    if formula is None:
        raise Refused(path, "fact")
    return [goal.with_entry(command[1], formula, ("fact", command[1]))]


MOVES = {
    "intro": intro,
    "exact": exact,
    "apply": apply_row,
    "open": open_row,
    "use": use,
    "drop": drop,
    "move": move,
    "split": split,
    "left": choose,
    "right": choose,
    "absurd": absurd,
    "have": have,
    "recall": recall,
}
