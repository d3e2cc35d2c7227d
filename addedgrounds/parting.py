"""Pairs of scripts: whether both end alike in all wider contexts, and what tells it."""

from addedgrounds.cases import added_in, ended
from addedgrounds.sessions import Stopped, run
from addedgrounds.steady import Verdict, require_grounds, words_of_claim
from addedgrounds.trees import example_of, is_paper, nodes_of, stand_at
from addedgrounds.values import copied_whole

ALIKE = ("no",)
AT_ONCE = ("at once",)


class Pair:
    """Two scripts, a context, a goal formula and facts, which never change."""

    def __init__(self, one, other, context, goal, *, facts=None):
        require_grounds(context, goal)
        self.scripts = (one, other)
        self.grounds = context
        self.aim = goal
        self.given = {} if facts is None else dict(facts)

    @property
    def context(self):
        """The context, which has the own rows."""
        return self.grounds

    def __eq__(self, other):
        if not isinstance(other, Pair) or self.given != other.given:
            return False
        return self.scripts == other.scripts and self.grounds == other.grounds and self.aim == other.aim

    def __repr__(self):
        return f"Pair({len(self.scripts[0])} and {len(self.scripts[1])} commands)"


class Alike(Verdict):
    """The verdict that both scripts of a pair end alike, with the nodes of its paper."""

    KIND = "alike"

    def __init__(self, claim, nodes):
        super().__init__(claim)
        self.shown_by = copied_whole(nodes)

    @property
    def claim(self):
        """The pair."""
        return self.subject

    def nodes(self):
        """The list of the nodes, or what was passed if it is no list."""
        return copied_whole(self.shown_by)

    def told(self):
        """The verdict in words."""
        return self.KIND

    def holds(self):
        """Whether the nodes are a paper of the pair, with ends alone in which the scripts end alike."""
        return is_paper(self.shown_by, self.subject.context, asking_both(self.subject), ALIKE)


class Parted(Verdict):
    """The verdict that the scripts of a pair end unlike, with a wider context that tells it."""

    KIND = "parted"

    def __init__(self, claim, wider, places):
        super().__init__(claim)
        self.broad = wider
        self.shown_by = copied_whole(places)

    @property
    def claim(self):
        """The pair."""
        return self.subject

    @property
    def wider(self):
        """The wider context."""
        return self.broad

    @property
    def added(self):
        """The number of rows that the wider context has more than the pair."""
        return len(self.broad) - len(self.subject.context)

    def places(self):
        """The list of the places of the own rows, or what was passed if it is no list."""
        return copied_whole(self.shown_by)

    def told(self):
        """The verdict in words."""
        return f"{self.KIND} {self.added}"

    def holds(self):
        """Whether the places are right, and the scripts end unlike there."""
        right = stand_at(self.subject.context, self.broad, self.shown_by)
        return right and not same_end(self.subject, self.broad)


def same_end(pair, context):
    """Whether both scripts of a pair end alike on a context."""
    ends = [run(script, context, pair.aim, facts=pair.given) for script in pair.scripts]
    stops = [isinstance(end, Stopped) for end in ends]
    if any(stops):
        return all(stops)
    return goals_of(ends[0]) == goals_of(ends[1])


def goals_of(outcome):
    """The list of the goals that a run left which was not stopped."""
    return [] if outcome else outcome.goals()


def compare(pair, *, limit=4000):
    """An Alike or a Parted that holds; raises as decide."""
    nodes = nodes_of(pair.context, asking_both(pair), limit)
    ends = [node for node in nodes if node[0] == "end" and node[2] != ALIKE]
    if not ends:
        return Alike(pair, nodes)
    end = min(ends, key=added_to_part)
    words = words_of_claim(pair.context, pair.aim, pair.given)
    words.extend(pair.scripts[0].words() + pair.scripts[1].words())
    wider, places = example_of(end[1], words, None if end[2] == AT_ONCE else end[2][0])
    return Parted(pair, wider, places)


def added_to_part(end):
    """The number of added rows in the least contexts of an end in which the scripts end unlike."""
    return added_in(end[1]) + (0 if end[2] == AT_ONCE else 1)


def asking_both(pair):
    """A function that gives the question, or what is told, of a case of a pair."""
    return lambda case: asked_both(pair, case)


def asked_both(pair, case):
    """The pair (question, None) or (None, told) of a case of a pair."""
    ends = []
    for script in pair.scripts:
        question, told, left = ended(script, case, pair.aim, pair.given)
        if question is not None:
            return question, None
        ends.append((told[0] == "stopped", left))
    return None, told_of_ends(ends[0], ends[1], gaps_with_rows(case))


def told_of_ends(one, other, gaps):
    """What is told of an end of a pair, from whether each script stopped and from the goals left."""
    if one[0] or other[0]:
        return ALIKE if one[0] and other[0] else AT_ONCE
    if rows_with(one[1], None) != rows_with(other[1], None):
        return AT_ONCE
    for gap in gaps:
        if rows_with(one[1], gap) != rows_with(other[1], gap):
            return (gap,)
    return ALIKE


def rows_with(goals, gap):
    """Goals without the gaps among their rows, but for the one with this number."""
    return [([row for row in rows if row[0] is not None or row[1] == gap], target) for rows, target in goals]


def gaps_with_rows(case):
    """The list of the numbers of the gaps of a case that may have rows."""
    return [entry[1] for entry in case[0] if entry[0] == "gap" and not is_barred(entry)]


def is_barred(gap):
    """Whether a gap has a pattern that each row fits."""
    return any([pattern[0] is None and pattern[1][0] == "hole" for pattern in gap[2]])
