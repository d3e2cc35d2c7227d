"""Cases: each stands for many wider contexts at once, and a question splits it."""

from addedgrounds.errors import Refused
from addedgrounds.looks import fits_known
from addedgrounds.placing import Placing
from addedgrounds.runs import Goal, Run
from addedgrounds.unknowns import can_fit, changed, made_to_fit, marks_of, with_fresh_parts
from addedgrounds.values import is_number

# Each row fits it.
EVERY = (None, ("hole", "a"))


class Unclear(Exception):
    """A look of a run on a case is not decided."""

    def __init__(self, question):
        self.question = question


class CaseSight:
    """Looks at rows and gaps of a case; raises Unclear where a look is not decided.

    A row begins with its name and its formula. A gap begins with None, its number and
    its patterns.
    """

    def __init__(self, apart):
        self.apart = apart

    def fits(self, pair, pattern):
        """Whether a pair fits a pattern."""
        if fits_known(pair, pattern):
            return True
        if (pair, pattern) in self.apart or not can_fit(pair, pattern):
            return False
        raise Unclear(("fits", pair, pattern))

    def newest(self, rows, pattern):
        """The place of the newest row that fits a pattern, or None."""
        for at in reversed(range(len(rows))):
            if rows[at][0] is not None:
                if self.fits((rows[at][0], rows[at][1]), pattern):
                    return at
            elif pattern not in rows[at][2]:
                raise Unclear(("newest", rows[at][1], pattern))
        return None

    def counted(self, rows, word, count):
        """The place of the row that is this one from the newest, or the oldest, on, or None."""
        order = list(range(len(rows)))
        if word == "newest":
            order.reverse()
        for passed, at in enumerate(order):
            if rows[at][0] is None:
                raise Unclear((word, rows[at][1], EVERY))
            if passed + 1 == count:
                return at
        return None


def first_case(context):
    """The case of all contexts that are wider than a context."""
    entries = [("gap", 0, ())]
    for at, row in enumerate(context.rows()):
        entries.extend([("own", row[0], row[1]), ("gap", at + 1, ())])
    return (tuple(entries), ())


def asked(script, case, goal, facts):
    """The pair (question, None) or (None, told) of a case."""
    question, told, left = ended(script, case, goal, facts)
    return question, told


def ended(script, case, goal, facts):
    """The question of a case, or None; how a run ends there, or None; and the goals that are left.

    The goals are pairs of a tuple of rows and a target; among the rows are the pairs
    (None, number) of the gaps.
    """
    going = begun_on(case, goal, facts)
    try:
        going.does(script.commands(), ())
    except Unclear as unclear:
        return unclear.question, None, []
    except Refused as refusal:
        return None, ("stopped", refusal.path, refusal.reason), []
    left = [found.pair() for found in going.left]
    return None, ("open", len(left)) if left else ("shown",), left


def begun_on(case, goal, facts):
    """A run with one goal on a case; its terms mean nothing."""
    entries, apart = case
    rows = []
    for at, entry in enumerate(entries):
        if entry[0] == "gap":
            rows.append((None, entry[1], entry[2]))
        else:
            rows.append((entry[1], entry[2], ("row", at)))
    return Run(CaseSight(apart), facts or {}, (Goal(tuple(rows), goal, 0),), len(rows))


def refined(case, question):
    """The list of the cases into which its question splits a case; raises TooLarge."""
    if question[0] == "fits":
        return split_by_pair(case, question[1], question[2])
    return split_by_gap(case, question)


def split_by_pair(case, pair, pattern):
    """The list of the cases in which a pair fits a pattern, and in which it does not."""
    entries, apart = case
    names, parts = made_to_fit(pair, pattern, fresh_part(case))
    special = tuple([changed_entry(entry, names, parts) for entry in entries])
    still = [(changed(one, names, parts), changed(other, names, parts)) for one, other in apart]
    return settled(special, still) + settled(entries, apart + ((pair, pattern),))


def split_by_gap(case, question):
    """The list of the cases in which no row of a gap fits a pattern, and in which some row does."""
    word, number, pattern = question
    entries, apart = case
    at = [entry[:2] for entry in entries].index(("gap", number))
    gap, ahead, behind = entries[at], entries[:at], entries[at + 1:]
    name = fresh_name(case) if pattern[0] is None else pattern[0]
    row = (name, with_fresh_parts(pattern[1], fresh_part(case)))
    grown = apart + tuple([(row, other) for other in gap[2]])
    if word == "oldest":
        lacking, having = (), (("new", *row), gap)
    else:
        lacking = narrowed(gap, number, pattern)
        having = (gap, ("new", *row), *narrowed(gap, fresh_gap(case), pattern))
    return settled(ahead + lacking + behind, apart) + settled(ahead + having + behind, grown)


def narrowed(gap, number, pattern):
    """A gap with another number whose rows do not fit a pattern, too, as a tuple; () if it has no rows."""
    return () if pattern == EVERY else (("gap", number, gap[2] + (pattern,)),)


def changed_entry(entry, names, parts):
    """An entry with those of two dicts in place of unknown names and unknown parts."""
    if entry[0] == "gap":
        return ("gap", entry[1], tuple([changed(pattern, names, parts) for pattern in entry[2]]))
    return ("new", *changed(entry[1:], names, parts)) if entry[0] == "new" else entry


def settled(entries, apart):
    """The list of the case with these entries, which is empty if something that is apart fits."""
    found = []
    for pair, pattern in apart:
        if fits_known(pair, pattern):
            return []
        if (pair, pattern) not in found and can_fit(pair, pattern):
            found.append((pair, pattern))
    return [(entries, tuple(found))]


def formulas_in(case):
    """The list of the formulas and shapes in a case, those of own rows left out."""
    entries, apart = case
    found = [entry[2] for entry in entries if entry[0] == "new"]
    for entry in entries:
        if entry[0] == "gap":
            found.extend([pattern[1] for pattern in entry[2]])
    for pair, pattern in apart:
        found.extend([pair[1], pattern[1]])
    return found


def fresh_part(case):
    """A number from which on no unknown part of a case has a number."""
    numbers = []
    for formula in formulas_in(case):
        numbers.extend(marks_of(formula, "part"))
    return 1 + max(numbers, default=-1)


def fresh_name(case):
    """A number that no unknown name of a case has."""
    entries, apart = case
    numbers = [entry[1] for entry in entries if entry[0] == "new" and is_number(entry[1])]
    return 1 + max(numbers, default=-1)


def fresh_gap(case):
    """A number that no gap of a case has."""
    return 1 + max([entry[1] for entry in case[0] if entry[0] == "gap"], default=-1)


def added_in(case):
    """The number of the new rows of a case."""
    return len([entry for entry in case[0] if entry[0] == "new"])


def fits(case, context, places):
    """Whether a case stands for a context with places of own rows."""
    entries, apart = case
    own = [entry for entry in entries if entry[0] == "own"]
    if len(own) != len(places) or list(places) != sorted(set(places)):
        return False
    placing = Placing(context.rows(), places, apart)
    return placing.makes(entries)
