"""A second, plain way to read the document: runs, judges and random scripts for the tests.

It shares no code with the package. Runs copy all goals again and again, and the judge calls
itself, so that both are only fit for small inputs.
"""


class Refusal(Exception):
    def __init__(self, path, reason):
        super().__init__(path, reason)
        self.path = path
        self.reason = reason


def matches(shape, formula, holes):
    """Whether a formula is of a shape; the dict of holes gets those that are met."""
    if shape[0] == "hole":
        return holes.setdefault(shape[1], formula) == formula
    if shape[0] != formula[0] or len(shape) != len(formula):
        return False
    if len(shape) == 3:
        return matches(shape[1], formula[1], holes) and matches(shape[2], formula[2], holes)
    return shape == formula


def found_row(goal, reference, path):
    """The index of the row that a reference finds."""
    rows, target = goal
    word = reference[0]
    if word in ("newest", "oldest"):
        places = list(range(len(rows)))
        if word == "newest":
            places = places[::-1]
        if len(places) < reference[1]:
            raise Refusal(path, "none")
        return places[reference[1] - 1]
    fitting = []
    for at, (name, formula) in enumerate(rows):
        if word == "name":
            fits = name == reference[1]
        elif word == "shape":
            fits = matches(reference[1], formula, {})
        elif word == "both":
            fits = name == reference[1] and matches(reference[2], formula, {})
        elif word == "goal":
            fits = formula == target
        else:
            fits = formula[0] == "then" and formula[2] == target
        if fits:
            fitting.append(at)
    if not fitting:
        raise Refusal(path, "none")
    return max(fitting)


def moved(goals, command, path, facts):
    """The goals behind a command without blocks."""
    if not goals:
        raise Refusal(path, "empty")
    goal = goals[0]
    rows, target = list(goal[0]), goal[1]
    word = command[0]

    def formula_of(at):
        return rows[found_row(goal, command[at], path)][1]

    if word == "intro":
        if target[0] != "then":
            raise Refusal(path, "shape")
        new = [(rows + [(command[1], target[1])], target[2])]
    elif word == "exact":
        if formula_of(1) != target:
            raise Refusal(path, "other")
        new = []
    elif word == "apply":
        formula = formula_of(1)
        if formula[0] != "then" or formula[2] != target:
            raise Refusal(path, "other")
        new = [(rows, formula[1])]
    elif word == "open":
        formula = formula_of(1)
        if formula[0] == "and":
            new = [(rows + [(command[2], formula[1]), (command[3], formula[2])], target)]
        elif formula[0] == "or":
            new = [(rows + [(command[2], formula[1])], target), (rows + [(command[3], formula[2])], target)]
        elif formula[0] == "false":
            new = []
        else:
            raise Refusal(path, "shape")
    elif word == "use":
        one, other = formula_of(1), formula_of(2)
        if one[0] != "then":
            raise Refusal(path, "shape")
        if other != one[1]:
            raise Refusal(path, "other")
        new = [(rows + [(command[3], one[2])], target)]
    elif word in ("drop", "move"):
        row = rows.pop(found_row(goal, command[1], path))
        new = [(rows + [row] if word == "move" else rows, target)]
    elif word == "split":
        if target[0] != "and":
            raise Refusal(path, "shape")
        new = [(rows, target[1]), (rows, target[2])]
    elif word in ("left", "right"):
        if target[0] != "or":
            raise Refusal(path, "shape")
        new = [(rows, target[1] if word == "left" else target[2])]
    elif word == "absurd":
        new = [(rows, ("false",))]
    elif word == "have":
        new = [(rows, command[2]), (rows + [(command[1], command[2])], target)]
    else:
        if command[1] not in facts:
            raise Refusal(path, "fact")
        new = [(rows + [(command[1], facts[command[1]])], target)]
    goals = new + goals[1:]
    if len(goals) > 12:
        raise Refusal(path, "many")
    return goals


def done(goals, commands, path, facts):
    """The goals behind commands."""
    for at, command in enumerate(commands):
        here = path + (at,)
        if command[0] == "first":
            try:
                goals = done(goals, command[1], here + (0,), facts)
            except Refusal:
                goals = done(goals, command[2], here + (1,), facts)
        elif command[0] in ("try", "repeat"):
            for _ in range(command[1] if command[0] == "repeat" else 1):
                try:
                    goals = done(goals, command[-1], here + (0,), facts)
                except Refusal:
                    break
        elif command[0] == "all":
            goals = [kid for goal in goals for kid in done([goal], command[1], here + (0,), facts)]
            if len(goals) > 12:
                raise Refusal(here, "many")
        else:
            goals = moved(goals, command, here, facts)
    return goals


def end_of(commands, rows, target, facts=None):
    """("shown",), ("open", goals) or ("stopped", path, reason)."""
    try:
        goals = done([(list(rows), target)], commands, (), facts or {})
    except Refusal as refusal:
        return ("stopped", refusal.path, refusal.reason)
    return ("open", [(tuple(some), aim) for some, aim in goals]) if goals else ("shown",)


def told(term, labels, facts):
    """The formula that a term tells, or None."""
    if term[0] == "row":
        return labels.get(term[1])
    if term[0] == "fact":
        return facts.get(term[1])
    if term[0] == "call":
        formula = told(term[1], labels, facts)
        if formula is None or formula[0] != "then" or not shows(term[2], formula[1], labels, facts):
            return None
        return formula[2]
    if term[0] in ("first", "second"):
        formula = told(term[1], labels, facts)
        if formula is None or formula[0] != "and":
            return None
        return formula[1 if term[0] == "first" else 2]
    return None


def shows(term, goal, labels, facts):
    """Whether a tuple with the form of a term shows a formula."""
    word = term[0]
    if word == "fun":
        return goal[0] == "then" and shows(term[2], goal[2], {**labels, term[1]: goal[1]}, facts)
    if word == "pair":
        return goal[0] == "and" and all(shows(term[at], goal[at], labels, facts) for at in (1, 2))
    if word in ("left", "right"):
        return goal[0] == "or" and shows(term[1], goal[1 if word == "left" else 2], labels, facts)
    if word == "never":
        return shows(term[1], ("false",), labels, facts)
    if word == "either":
        formula = told(term[1], labels, facts)
        if formula is None or formula[0] != "or":
            return False
        return all(shows(term[at + 1], goal, {**labels, term[at]: formula[at // 2]}, facts) for at in (2, 4))
    if word == "let":
        return shows(term[3], term[2], labels, facts) and shows(term[4], goal, {**labels, term[1]: term[2]}, facts)
    return told(term, labels, facts) == goal


def random_formula(random, depth, atoms="pqr"):
    if depth == 1 or random.random() < 0.3:
        return ("false",) if random.random() < 0.15 else ("atom", random.choice(atoms))
    kind = random.choice(("then", "then", "and", "or"))
    return (kind, random_formula(random, depth - 1, atoms), random_formula(random, depth - 1, atoms))


def random_shape(random, depth):
    if depth == 1 or random.random() < 0.3:
        return ("hole", random.choice("ab")) if random.random() < 0.7 else random_formula(random, 1)
    kind = random.choice(("then", "and", "or"))
    return (kind, random_shape(random, depth - 1), random_shape(random, depth - 1))


def random_reference(random):
    word = random.choice(("name", "name", "newest", "newest", "oldest", "shape", "both", "goal", "toward"))
    if word == "name":
        return (word, random.choice("hk"))
    if word in ("newest", "oldest"):
        return (word, random.randint(1, 4))
    if word == "shape":
        return (word, random_shape(random, 3))
    if word == "both":
        return (word, random.choice("hk"), random_shape(random, 2))
    return (word,)


def random_move(random):
    word = random.choice((
        "intro", "intro", "exact", "exact", "apply", "open", "open", "use", "use", "drop", "move", "split", "split",
        "left", "right", "absurd", "have", "recall"))
    if word in ("exact", "apply", "drop", "move"):
        return (word, random_reference(random))
    if word == "intro":
        return (word, random.choice("hk"))
    if word == "open":
        return (word, random_reference(random), random.choice("hk"), random.choice("hk"))
    if word == "use":
        return (word, random_reference(random), random_reference(random), random.choice("hk"))
    if word == "have":
        return (word, random.choice("hk"), random_formula(random, 2))
    if word == "recall":
        return (word, random.choice(("fa", "fb", "none")))
    return (word,)


def random_commands(random, most, depth=1):
    """A tuple of commands, at most so many, those in blocks counted."""
    found = []
    left = random.randint(0, most)
    while left > 0:
        left -= 1
        if depth == 3 and random.random() < 0.9 or random.random() < 0.6:
            found.append(random_move(random))
            continue
        word = random.choice(("first", "try", "repeat", "all"))
        inside = []
        for _ in range(2 if word == "first" else 1):
            block = random_commands(random, left, depth + 1) if depth < 3 else ()
            left -= len(flat(block))
            inside.append(block)
        found.append((word, random.randint(1, 3), *inside) if word == "repeat" else (word, *inside))
    return tuple(found)


def blocks(command):
    return {"first": command[1:], "try": command[1:], "all": command[1:], "repeat": command[2:]}.get(command[0], ())


def flat(commands, path=()):
    """The list of the pairs (path, command) of commands and those in their blocks."""
    found = []
    for at, command in enumerate(commands):
        found.append((path + (at,), command))
        for number, block in enumerate(blocks(command)):
            found += flat(block, path + (at, number))
    return found


def formula_words(formula):
    if len(formula) == 3:
        sign = {"then": ">", "and": "&", "or": "|"}[formula[0]]
        return f"({formula_words(formula[1])} {sign} {formula_words(formula[2])})"
    return {"atom": formula[-1], "hole": "?" + formula[-1], "false": "0"}[formula[0]]


def part_words(part):
    """The text of a name, a number, a formula or a reference."""
    if not isinstance(part, tuple):
        return str(part)
    texts = {
        "name": lambda: part[1], "newest": lambda: "#" + str(part[1]), "oldest": lambda: "@" + str(part[1]),
        "shape": lambda: "[" + formula_words(part[1]) + "]", "goal": lambda: "=", "toward": lambda: ">",
        "both": lambda: part[1] + ":[" + formula_words(part[2]) + "]"}
    return texts[part[0]]() if part[0] in texts else formula_words(part)


def lines(commands):
    """The list of the lines of commands."""
    found = []
    for command in commands:
        inner = blocks(command)
        found.append(" ".join(part_words(part) for part in command[:len(command) - len(inner)]))
        for number, block in enumerate(inner):
            found += lines(block)
            found.append("else" if command[0] == "first" and number == 0 else "end")
    return found


def candidates(random, goal):
    """Commands that may do something sensible with a goal, in the order in which to try them."""
    rows, target = goal
    some = [("exact", ("goal",))]
    some += {"then": [("intro", random.choice("hk"))], "and": [("split",)],
             "or": random.sample([("left",), ("right",)], 2)}.get(target[0], [])
    wild = [random_move(random) for _ in range(6)] + [("apply", ("toward",))]
    wild += [("open", ("newest", at), "h", "k") for at in (1, 2)]
    random.shuffle(wild)
    return some + wild if random.random() < 0.7 else wild + some


def wrapped(random, command):
    """A command, or a command with blocks around it, which may refuse in between."""
    kind = random.random()
    if kind < 0.55:
        return command
    if kind < 0.65:
        return ("try", (command,))
    if kind < 0.75:
        return ("first", (command, random_move(random)), (command,))
    if kind < 0.85:
        return ("first", (("absurd",), random_move(random), ("exact", ("shape", ("false",)))), (command,))
    if kind < 0.95:
        return ("repeat", random.randint(1, 3), (command,))
    return ("all", (("try", (command,)),))


def guided_commands(random, rows, target, facts, most):
    """Commands that do not refuse, and that show the target more often than others."""
    found, goals = (), [(list(rows), target)]
    for _ in range(60):
        if not goals or len(flat(found)) >= most:
            break
        for command in candidates(random, goals[0]):
            more = wrapped(random, command)
            if len(flat(found + (more,))) > most:
                continue
            try:
                goals = done(goals, (more,), (), facts)
            except Refusal:
                continue
            found += (more,)
            break
    return found
