"""A second, plain way to read the document on cases: questions, splits and trees for the tests.

It shares no code with the package. A case is as in the document; unknown parts and holes are
made equal by replacing one after the other everywhere.
"""

import re

from tests.model import Refusal, matches

EVERY = (None, ("hole", "a"))


class Undecided(Exception):
    def __init__(self, question):
        super().__init__(question)
        self.question = question


def is_unknown(formula):
    return formula[0] in ("part", "hole")


def replaced(formula, unknown, worth):
    if formula == unknown:
        return worth
    return (formula[0], *(replaced(side, unknown, worth) for side in formula[1:])) if len(formula) == 3 else formula


def contains(formula, unknown):
    return formula == unknown or len(formula) == 3 and any(contains(side, unknown) for side in formula[1:])


def equated(one, other):
    """A list of the pairs (unknown, worth), to be replaced one after the other, or None."""
    pairs, found = [(one, other)], []
    while pairs:
        one, other = pairs.pop(0)
        if one == other:
            continue
        if not is_unknown(one):
            one, other = other, one
        if is_unknown(one):
            if contains(other, one):
                return None
            pairs = [tuple(replaced(side, one, other) for side in pair) for pair in pairs]
            found.append((one, other))
        elif one[0] == other[0] and len(one) == 3:
            pairs += [(one[1], other[1]), (one[2], other[2])]
        else:
            return None
    return found


def is_so(pair, pattern):
    """Whether a pair fits whatever the unknown parts and names are."""
    return pattern[0] in (None, pair[0]) and matches(pattern[1], pair[1], {})


def may_be(pair, pattern):
    """Whether a pair fits for some formulas and names."""
    return (pattern[0] in (None, pair[0]) or isinstance(pair[0], int)) and equated(pair[1], pattern[1]) is not None


def fits(pair, pattern, apart):
    if is_so(pair, pattern):
        return True
    if not may_be(pair, pattern) or (pair, pattern) in apart:
        return False
    raise Undecided(("fits", pair, pattern))


def found(rows, target, reference, apart):
    """The index of the row that a reference finds, or None."""
    word, *parts = reference
    hole = ("hole", "a")
    if word in ("newest", "oldest"):
        left = parts[0]
        for at in range(len(rows)) if word == "oldest" else reversed(range(len(rows))):
            if rows[at][0] == "gap":
                raise Undecided((word, rows[at][1], EVERY))
            left -= 1
            if not left:
                return at
        return None
    pattern = {
        "name": lambda: (parts[0], hole), "shape": lambda: (None, parts[0]), "both": lambda: tuple(parts),
        "goal": lambda: (None, target), "toward": lambda: (None, ("then", hole, target))}[word]()
    for at in reversed(range(len(rows))):
        if rows[at][0] == "gap":
            if pattern not in rows[at][2]:
                raise Undecided(("newest", rows[at][1], pattern))
        elif fits(rows[at], pattern, apart):
            return at
    return None


def moved(goals, command, path, facts, apart):
    """As moved of model.py, with gaps among the rows."""
    if not goals:
        raise Refusal(path, "empty")
    (rows, target), rest = goals[0], goals[1:]
    word, *parts = command

    def place(reference):
        at = found(rows, target, reference, apart)
        if at is None:
            raise Refusal(path, "none")
        return at

    def asks(formula, shape, reason):
        if not fits((None, formula), (None, shape), apart):
            raise Refusal(path, reason)
        return formula

    def joint(kind):
        return (kind, ("hole", "a"), ("hole", "b"))

    if word == "intro":
        asks(target, joint("then"), "shape")
        new = [(rows + [(parts[0], target[1])], target[2])]
    elif word == "exact":
        asks(rows[place(parts[0])][1], target, "other")
        new = []
    elif word == "apply":
        new = [(rows, asks(rows[place(parts[0])][1], ("then", ("hole", "a"), target), "other")[1])]
    elif word == "open":
        formula = rows[place(parts[0])][1]
        if fits((None, formula), (None, ("false",)), apart):
            new = []
        elif fits((None, formula), (None, joint("and")), apart):
            new = [(rows + [(parts[1], formula[1]), (parts[2], formula[2])], target)]
        else:
            asks(formula, joint("or"), "shape")
            new = [(rows + [(parts[at], formula[at])], target) for at in (1, 2)]
    elif word == "use":
        one, other = rows[place(parts[0])][1], rows[place(parts[1])][1]
        asks(one, joint("then"), "shape")
        asks(other, one[1], "other")
        new = [(rows + [(parts[2], one[2])], target)]
    elif word in ("drop", "move"):
        at = place(parts[0])
        new = [(rows[:at] + rows[at + 1:] + (rows[at:at + 1] if word == "move" else []), target)]
    elif word == "split":
        asks(target, joint("and"), "shape")
        new = [(rows, target[1]), (rows, target[2])]
    elif word in ("left", "right"):
        asks(target, joint("or"), "shape")
        new = [(rows, target[1 if word == "left" else 2])]
    elif word == "absurd":
        new = [(rows, ("false",))]
    elif word == "have":
        new = [(rows, parts[1]), (rows + [tuple(parts)], target)]
    elif parts[0] in facts:
        new = [(rows + [(parts[0], facts[parts[0]])], target)]
    else:
        raise Refusal(path, "fact")
    if len(new + rest) > 12:
        raise Refusal(path, "many")
    return new + rest


def done(goals, commands, path, facts, apart):
    """As done of model.py, with gaps among the rows."""
    for at, command in enumerate(commands):
        here = path + (at,)
        if command[0] == "first":
            try:
                goals = done(goals, command[1], here + (0,), facts, apart)
            except Refusal:
                goals = done(goals, command[2], here + (1,), facts, apart)
        elif command[0] in ("try", "repeat"):
            for _ in range(command[1] if command[0] == "repeat" else 1):
                try:
                    goals = done(goals, command[-1], here + (0,), facts, apart)
                except Refusal:
                    break
        elif command[0] == "all":
            goals = [kid for goal in goals for kid in done([goal], command[1], here + (0,), facts, apart)]
            if len(goals) > 12:
                raise Refusal(here, "many")
        else:
            goals = moved(goals, command, here, facts, apart)
    return goals


def end_on(commands, case, goal, facts):
    """("asks", question), ("shown",), ("open", goals) or ("stopped", path, reason)."""
    rows = [entry if entry[0] == "gap" else entry[1:] for entry in case[0]]
    try:
        goals = done([(rows, goal)], commands, (), facts, case[1])
    except Undecided as undecided:
        return ("asks", undecided.question)
    except Refusal as refusal:
        return ("stopped", refusal.path, refusal.reason)
    return ("open", goals) if goals else ("shown",)


def told_on(commands, case, goal, facts):
    """As asked: the pair (question, None) or (None, told)."""
    end = end_on(commands, case, goal, facts)
    if end[0] == "asks":
        return end[1], None
    return None, ("open", len(end[1])) if end[0] == "open" else end


def told_on_both(scripts, case, goal, facts):
    """As told_on, for the two scripts of a pair."""
    ends = [end_on(commands, case, goal, facts) for commands in scripts[:1]]
    if ends[0][0] == "asks":
        return ends[0][1], None
    ends.append(end_on(scripts[1], case, goal, facts))
    if ends[1][0] == "asks":
        return ends[1][1], None
    if "stopped" in (ends[0][0], ends[1][0]):
        return None, ("no",) if ends[0][0] == ends[1][0] else ("at once",)
    left = [end[1] if end[0] == "open" else [] for end in ends]

    def seen(goals, number):
        return [([row for row in rows if row[0] != "gap" or row[1] == number], target) for rows, target in goals]

    if seen(left[0], None) != seen(left[1], None):
        return None, ("at once",)
    for entry in case[0]:
        if entry[0] == "gap" and not any(name is None and shape[0] == "hole" for name, shape in entry[2]):
            if seen(left[0], entry[1]) != seen(left[1], entry[1]):
                return None, (entry[1],)
    return None, ("no",)


def kept(entries, apart):
    """The case in a list, or an empty list if something that is apart fits."""
    if any(is_so(pair, pattern) for pair, pattern in apart):
        return []
    able = [item for item in apart if may_be(*item)]
    return [(tuple(entries), tuple(item for at, item in enumerate(able) if item not in able[:at]))]


def everywhere(case, change):
    """The entries and what is apart of a case, with each pair and each pattern changed."""
    entries = [
        ("gap", entry[1], tuple(map(change, entry[2]))) if entry[0] == "gap" else (entry[0], *change(entry[1:]))
        for entry in case[0]]
    return entries, [(change(pair), change(pattern)) for pair, pattern in case[1]]


def unknowns_in(formula, word):
    if formula[0] == word:
        return [formula[1]]
    return [unknown for side in formula[1:] for unknown in unknowns_in(side, word)] if len(formula) == 3 else []


def with_parts(shape, first):
    for at, letter in enumerate(unknowns_in(shape, "hole")):
        shape = replaced(shape, ("hole", letter), ("part", first + at))
    return shape


def split(case, question):
    """The list of the cases into which a question splits a case, with numbers for all that is new that none has."""
    entries, apart = case
    fresh = 1 + max(map(int, re.findall(r"\d+", repr(case))), default=0)
    word, what, pattern = question
    if word == "fits":
        table = equated(what[1], with_parts(pattern[1], fresh))

        def change(pair):
            name, formula = pair
            if pattern[0] is not None and isinstance(name, int) and name == what[0]:
                name = pattern[0]
            for unknown, worth in table:
                formula = replaced(formula, unknown, worth)
            return name, formula

        return kept(*everywhere(case, change)) + kept(entries, apart + ((what, pattern),))
    at = next(at for at, entry in enumerate(entries) if entry[:2] == ("gap", what))
    gap = entries[at]
    row = (fresh if pattern[0] is None else pattern[0], with_parts(pattern[1], fresh))
    narrow = [("gap", what, gap[2] + (pattern,)), ("gap", fresh, gap[2] + (pattern,))]
    if pattern == EVERY:
        narrow = [None, None]
    rows = [[None], [("new", *row), gap]] if word == "oldest" else [narrow[:1], [gap, ("new", *row), narrow[1]]]
    cases = [[entry for entry in (*entries[:at], *new, *entries[at + 1:]) if entry] for new in rows]
    return kept(cases[0], apart) + kept(cases[1], apart + tuple((row, other) for other in gap[2]))


def renumbered(case, *others):
    """A case, with other values beside it, with its unknown parts, names and gaps numbered in their order."""
    tables = {"part": {}, "name": {}, "gap": {}}

    def number(word, at):
        return tables[word].setdefault(at, len(tables[word]))

    def change(value):
        if isinstance(value, tuple) and value[:1] == ("part",):
            return ("part", number("part", value[1]))
        if isinstance(value, tuple) and len(value) == 3 and value[0] in ("gap", "newest", "oldest"):
            return (value[0], number("gap", value[1]), change(value[2]))
        if isinstance(value, tuple) and len(value) == 3 and value[0] == "new":
            return ("new", change(value[1]), change(value[2]))
        if isinstance(value, tuple):
            return tuple(change(item) for item in value)
        return number("name", value) if isinstance(value, int) else value

    return (change(case), *(change(other) for other in others))


def tree(rows, ask, limit):
    """The list of the nodes (case, question, told) of a tree, or None if there are more than a limit."""
    entries = [("gap", 0, ())]
    for at, row in enumerate(rows):
        entries += [("own", *row), ("gap", at + 1, ())]
    cases, nodes = [(tuple(entries), ())], []
    for case in cases:
        question, told = ask(case)
        nodes.append((case, question, told))
        cases += split(case, question) if question else []
        if len(cases) > limit:
            return None
    return nodes
