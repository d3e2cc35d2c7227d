"""Random claims, pairs and wider contexts for the tests, and what several of them use."""

from addedgrounds.contexts import Context
from addedgrounds.formulas import read_formula
from addedgrounds.parting import Pair
from addedgrounds.scripts import Script
from addedgrounds.steady import Claim
from tests import model

# Names and atoms of random claims are those that come first where new ones are looked for.
LETTERS = dict(zip("pqrhkm", "abcdef"))
GIVEN = {"fa": ("then", ("atom", "q"), ("atom", "r")), "fb": ("and", ("atom", "p"), ("false",))}
FACTS = {"fa": ("then", ("atom", "b"), ("atom", "c")), "fb": ("and", ("atom", "a"), ("false",))}
# No numbers of nodes.
LIMITS = [0, -1, 4001, 999999999999, True, False, None, "1", (), [1], (400,)]


def claim(script, context, goal, facts=None):
    """The claim with the texts of a script, a context and a goal."""
    return Claim(Script.read(script), Context.read(context), read_formula(goal), facts=facts)


def pair(one, other, context, goal, facts=None):
    """The pair with the texts of two scripts, a context and a goal."""
    return Pair(Script.read(one), Script.read(other), Context.read(context), read_formula(goal), facts=facts)


def sized(many, leaf=("atom", "p")):
    """A formula with an odd number of parts that is not nested deeper than needed."""
    if many == 1:
        return leaf
    half = (many - 1) // 2
    half -= 1 - half % 2
    return ("and", sized(half, leaf), sized(many - 1 - half, leaf))


def lettered(value):
    """A value with other letters as its names and atoms."""
    if isinstance(value, (list, tuple)):
        return type(value)(lettered(item) for item in value)
    return LETTERS.get(value, value)


def some_row(random):
    return random.choice("hkm"), model.random_formula(random, random.randint(1, 3))


def random_row(random):
    return lettered(some_row(random))


def random_parts(random, most):
    """Commands, rows and a goal."""
    rows = [some_row(random) for _ in range(random.randint(0, 3))]
    goal = model.random_formula(random, 3)
    if random.random() < 0.5:
        return lettered((model.guided_commands(random, rows, goal, GIVEN, most), rows, goal))
    return lettered((model.random_commands(random, most), rows, goal))


def steadier_parts(random):
    """Commands, rows and a goal, which are steady more often than others."""
    rows = [some_row(random) for _ in range(random.randint(0, 3))]
    name, goal = random.choice(rows) if rows else ("h", ("atom", "p"))
    shape = ("both", name, goal) if random.random() < 0.5 else ("goal",)
    commands = []
    for _ in range(random.randint(0, 3)):
        move = random.choice([("exact", ("name", "h")), ("drop", model.random_reference(random)), ("move", shape)])
        kind = random.random()
        if kind < 0.4:
            commands.append(("try", (move,)))
        elif kind < 0.7:
            commands.append(("first", (move,), (("have", "m", goal), ("exact", shape))))
        else:
            commands.append(("move", shape))
    return lettered((tuple(commands) + (("all", (("exact", shape),)),), rows, goal))


def other_commands(random, commands):
    """Commands that are a little unlike other ones."""
    some = list(commands)
    move = ("move", model.random_reference(random))
    new = lettered(random.choice(
        [model.random_move(random), move, ("try", (move,)), ("drop", model.random_reference(random))]))
    at = random.randint(0, len(some))
    some[at:at + random.randint(0, 1)] = random.choice([[new], [], [new]])
    return tuple(some)


def made_wider(random, rows, places, most=4):
    """Rows with added rows between, and the places of the own rows."""
    rows, places = list(rows), list(places)
    for _ in range(random.randint(0, most)):
        at = random.randint(0, len(rows))
        rows.insert(at, random.choice(rows) if rows and random.random() < 0.4 else random_row(random))
        places = [place + (place >= at) for place in places]
    return rows, places


def all_wider(rows, added, pool):
    """The contexts that come from rows by adding this many rows of a list."""
    found = [list(rows)]
    for _ in range(added):
        found = [some[:at] + [row] + some[at:] for some in found for at in range(len(some) + 1) for row in pool]
    return [Context(some) for some in found]
