"""Terms that derive goals: the judge of them, and the formulas that entries state."""

from addedgrounds.formulas import chained, is_built
from addedgrounds.values import is_number

FALSE = ("false",)
LET_DEPTH = 90
# How many items a term with this word has.
SIZES = {
    "row": 2, "fact": 2, "call": 3, "first": 2, "second": 2,
    "fun": 3, "pair": 3, "left": 2, "right": 2, "never": 2, "either": 6, "let": 5,
}
TELLING = ("row", "fact", "call", "first", "second")
# What a formula has to be so that the term around its term tells one of its sides.
TAKEN = {"call": "then", "first": "and", "second": "and"}


class Judge:
    """What is known of labels and facts, and the terms that are still to be judged.

    The terms wait in a list, as terms of long sessions are nested too deep for calls
    within calls. A label is bound only while the term over which it is bound is judged.
    """

    def __init__(self, context, facts):
        self.given = facts
        self.scopes = {at: [row[1]] for at, row in enumerate(context.rows())}
        self.waiting = []

    def accepts(self, term, goal):
        """Whether a value is a term that shows a formula."""
        self.asks(term, goal)
        while self.waiting:
            word, what, formula = self.waiting.pop()
            if word == "bind":
                self.scopes.setdefault(what, []).append(formula)
            elif word == "free":
                self.scopes[what].pop()
            elif not self.shows(what, formula):
                return False
        return True

    def asks(self, term, goal):
        """Puts a term with the formula that it has to show with those that wait."""
        self.waiting.append(("show", term, goal))
        return True

    def binds(self, label, formula, term, goal):
        """Puts a term under a label with those that wait; False if it is no label."""
        if not is_number(label):
            return False
        self.waiting.extend([("free", label, formula), ("show", term, goal), ("bind", label, formula)])
        return True

    def shows(self, term, goal):
        """Whether a term has a form in which it may show a formula; its parts then wait."""
        word = word_of(term)
        if word in TELLING:
            return self.told_by(term) == goal
        if word == "fun":
            return goal[0] == "then" and self.binds(term[1], goal[1], term[2], goal[2])
        if word == "pair":
            return goal[0] == "and" and self.asks(term[1], goal[1]) and self.asks(term[2], goal[2])
        if word == "left":
            return goal[0] == "or" and self.asks(term[1], goal[1])
        if word == "right":
            return goal[0] == "or" and self.asks(term[1], goal[2])
        if word == "never":
            return self.asks(term[1], FALSE)
        if word == "either":
            return self.shows_either(term, goal)
        return word == "let" and self.shows_let(term, goal)

    def shows_either(self, term, goal):
        """As shows, for a term with the word either."""
        choice = self.told_by(term[1])
        if choice is None or choice[0] != "or":
            return False
        return self.binds(term[2], choice[1], term[3], goal) and self.binds(term[4], choice[2], term[5], goal)

    def shows_let(self, term, goal):
        """As shows, for a term with the word let."""
        if not is_built(term[2], LET_DEPTH, False):
            return False
        return self.asks(term[3], term[2]) and self.binds(term[1], term[2], term[4], goal)

    def told_by(self, term):
        """The formula that a term tells if the parts that then wait show theirs, or None."""
        around = []
        while word_of(term) in TAKEN:
            around.append(term)
            term = term[1]
        formula = self.known(term)
        for outer in reversed(around):
            if formula is None or formula[0] != TAKEN[outer[0]]:
                return None
            if outer[0] == "call":
                self.asks(outer[2], formula[1])
            formula = formula[1] if outer[0] == "first" else formula[2]
        return formula

    def known(self, term):
        """The formula of the label or of the fact in a term, or None."""
        word = word_of(term)
        if word == "row" and is_number(term[1]):
            formulas = self.scopes.get(term[1], [])
            return formulas[-1] if formulas else None
        if word == "fact" and isinstance(term[1], str):
            return self.given.get(term[1])
        return None


def word_of(term):
    """The word of a value that is as long as a term with this word, or an empty string."""
    if not isinstance(term, tuple) or len(term) == 0 or not isinstance(term[0], str):
        return ""
    return term[0] if SIZES.get(term[0]) == len(term) else ""


def is_derivation(term, context, goal, *, facts=None):
    """Whether any value is a term that shows a goal formula in a context."""
    judge = Judge(context, {} if facts is None else facts)
    return judge.accepts(term, goal)


def statement(context, goal):
    """The goal with the formulas of the rows put ahead, that of the oldest one outside."""
    return chained([row[1] for row in context.rows()], goal)
