"""Claims: whether scripts show their goals in all wider contexts, and what tells it."""

from addedgrounds.cases import added_in, asked
from addedgrounds.errors import InvalidFormula, TooMany
from addedgrounds.formulas import atoms_of, is_formula
from addedgrounds.sessions import run
from addedgrounds.trees import example_of, is_paper, nodes_of, stand_at
from addedgrounds.values import copied_whole

MOST_ROWS = 8
SHOWN = ("shown",)


class Claim:
    """A script, a context, a goal formula and facts, which never change."""

    def __init__(self, script, context, goal, *, facts=None):
        require_grounds(context, goal)
        self.plan = script
        self.grounds = context
        self.aim = goal
        self.given = {} if facts is None else dict(facts)

    @property
    def script(self):
        """The script."""
        return self.plan

    @property
    def context(self):
        """The context, which has the own rows."""
        return self.grounds

    @property
    def goal(self):
        """The goal formula."""
        return self.aim

    def facts(self):
        """A dict from the names of the facts to their formulas."""
        return dict(self.given)

    def run_on(self, context):
        """The outcome of the script on a context."""
        return run(self.plan, context, self.aim, facts=self.given)

    def shown_everywhere(self, *, limit=4000):
        """Whether the claim is steady; raises as decide."""
        return bool(decide(self, limit=limit))

    def __eq__(self, other):
        if not isinstance(other, Claim) or self.given != other.given:
            return False
        return self.plan == other.plan and self.grounds == other.grounds and self.aim == other.aim

    def __repr__(self):
        return f"Claim({len(self.plan)} commands, {len(self.grounds)} rows)"


class Verdict:
    """What is decided of a claim or of a pair, which never changes."""

    KIND = "unknown"

    def __init__(self, claim):
        self.subject = claim

    @property
    def claim(self):
        """The claim or the pair."""
        return self.subject

    def told(self):
        """The verdict in words."""
        return self.KIND

    def holds(self):
        """Whether the verdict is right."""
        return False

    def __bool__(self):
        return self.KIND in ("steady", "alike")

    def __repr__(self):
        return f"Verdict({self.told()})"


class Steady(Verdict):
    """The verdict that a claim is steady, with the nodes of its paper."""

    KIND = "steady"

    def __init__(self, claim, nodes):
        super().__init__(claim)
        self.shown_by = copied_whole(nodes)

    def nodes(self):
        """The list of the nodes, or what was passed if it is no list."""
        return copied_whole(self.shown_by)

    def told(self):
        """The verdict in words."""
        return self.KIND

    def holds(self):
        """Whether the nodes are a paper of the claim with shown ends alone."""
        return is_paper(self.shown_by, self.subject.context, asking(self.subject), SHOWN)


class Breach(Verdict):
    """The verdict that a claim is not steady, with a wider context that tells it."""

    KIND = "breach"

    def __init__(self, claim, wider, places):
        super().__init__(claim)
        self.broad = wider
        self.shown_by = copied_whole(places)

    @property
    def wider(self):
        """The wider context."""
        return self.broad

    @property
    def added(self):
        """The number of rows that the wider context has more than the claim."""
        return len(self.broad) - len(self.subject.context)

    def places(self):
        """The list of the places of the own rows, or what was passed if it is no list."""
        return copied_whole(self.shown_by)

    def outcome(self):
        """The outcome of the script on the wider context."""
        return self.subject.run_on(self.broad)

    def told(self):
        """The verdict in words."""
        return f"{self.KIND} {self.added}"

    def holds(self):
        """Whether the places are right, and the script does not show the goal there."""
        return stand_at(self.subject.context, self.broad, self.shown_by) and not self.outcome()


def require_grounds(context, goal):
    """Raises InvalidFormula for a goal that is no formula, then TooMany for too many rows."""
    if not is_formula(goal):
        raise InvalidFormula(goal)
    if len(context) > MOST_ROWS:
        raise TooMany(MOST_ROWS)


def asking(claim):
    """A function that gives the question, or what is told, of a case of a claim."""
    facts = claim.facts()
    return lambda case: asked(claim.script, case, claim.goal, facts)


def decide(claim, *, limit=4000):
    """A Steady or a Breach that holds; raises InvalidNumber, TooMany, TooLarge, TooMany."""
    nodes = nodes_of(claim.context, asking(claim), limit)
    cases = [node[1] for node in nodes if node[0] == "end" and node[2] != SHOWN]
    if not cases:
        return Steady(claim, nodes)
    words = words_of_claim(claim.context, claim.goal, claim.facts()) + claim.script.words()
    wider, places = example_of(min(cases, key=added_in), words, None)
    return Breach(claim, wider, places)


def words_of_claim(context, goal, facts):
    """A list of the names and atoms in a context, a goal and facts."""
    found = context.words() + atoms_of(goal)
    for name in facts:
        found.extend(atoms_of(facts[name]))
    return found
