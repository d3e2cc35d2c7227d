"""Runs of scripts, how they end, and runs that are made step by step."""

from addedgrounds.errors import InvalidFormula, InvalidText, NothingLeft, Refused
from addedgrounds.formulas import is_formula
from addedgrounds.looks import Sight
from addedgrounds.runs import Goal, Run, whole_term
from addedgrounds.scripts import Script


class Outcome:
    """How a run ended, which never changes."""

    def __init__(self, ending, worth):
        self.ending = ending
        self.worth = worth

    def told(self):
        """How the run ended, in words."""
        return self.ending

    def __eq__(self, other):
        return isinstance(other, Outcome) and self.ending == other.ending and self.worth == other.worth

    def __bool__(self):
        return isinstance(self, Shown)

    def __repr__(self):
        return f"Outcome({self.ending})"


class Shown(Outcome):
    """The end of a run that left no goal."""

    def __init__(self, term):
        super().__init__("shown", term)

    def told(self):
        """How the run ended, in words."""
        return self.ending

    @property
    def term(self):
        """A term that shows the goal."""
        return self.worth


class Open(Outcome):
    """The end of a run that left goals."""

    def __init__(self, left):
        super().__init__(f"open {len(left)}", tuple(left))

    def told(self):
        """How the run ended, in words."""
        return self.ending

    def goals(self):
        """The list of the pairs (tuple of rows, target)."""
        return list(self.worth)


class Stopped(Outcome):
    """The end of a run in which a command refused."""

    def __init__(self, place, cause):
        super().__init__(f"stopped {cause}", (place, cause))

    def told(self):
        """How the run ended, in words."""
        return self.ending

    @property
    def place(self):
        """The path of the command that refused."""
        return self.worth[0]

    @property
    def cause(self):
        """The reason for which it refused."""
        return self.worth[1]


class Session:
    """A run that is made step by step."""

    def __init__(self, context, goal, *, facts=None):
        if not is_formula(goal):
            raise InvalidFormula(goal)
        self.grounds = context
        self.aim = goal
        self.given = {} if facts is None else dict(facts)
        self.start = begun(context, goal, self.given)
        self.now = self.start
        self.past = []
        self.future = []
        self.doing = False

    @property
    def context(self):
        """The context of the first goal."""
        return self.grounds

    @property
    def goal(self):
        """The goal formula."""
        return self.aim

    @property
    def many(self):
        """The number of open goals."""
        return len(self.now.left)

    @property
    def busy(self):
        """Whether commands are being done."""
        return self.doing

    def do(self, *commands):
        """Does commands as one step; raises InvalidCommand, TooMany, Refused."""
        tested = Script(commands).commands()
        following = self.now.after()
        self.doing = True
        try:
            following.does(tested, ())
        finally:
            self.doing = False
        self.past.append((tested, following))
        self.future = []
        self.now = following

    def tell(self, line):
        """Does the command with a text; raises InvalidText, TooMany, Refused."""
        commands = Script.read(line).commands()
        if len(commands) != 1:
            raise InvalidText(0)
        self.do(*commands)

    def undo(self):
        """Undoes the last step; raises NothingLeft."""
        if not self.past:
            raise NothingLeft()
        self.future.append(self.past.pop())
        self.now = self.past[-1][1] if self.past else self.start

    def redo(self):
        """Does the step again that was undone last; raises NothingLeft."""
        if not self.future:
            raise NothingLeft()
        self.past.append(self.future.pop())
        self.now = self.past[-1][1]

    def history(self):
        """The pair of the numbers of steps that can be undone and redone."""
        return len(self.past), len(self.future)

    def commands(self):
        """The list of the commands that were done and not undone."""
        return [command for tested, following in self.past for command in tested]

    def goals(self):
        """The list of the pairs (tuple of rows, target) of the open goals."""
        return pairs_of(self.now)

    def derivation(self):
        """A term that shows the goal, or None while goals are open."""
        if self.now.left:
            return None
        frames = {}
        for tested, following in self.past:
            frames.update(following.frames)
        return whole_term(frames)

    def twin(self):
        """An independent session in the same state, with the same steps."""
        other = Session(self.grounds, self.aim, facts=self.given)
        other.now = self.now
        other.past = list(self.past)
        other.future = list(self.future)
        return other

    def __len__(self):
        return len(self.past)

    def __repr__(self):
        return f"Session({len(self.now.left)} goals)"


def begun(context, goal, facts):
    """A run with one goal; its rows have their places as labels."""
    rows = context.rows()
    entries = tuple([(row[0], row[1], ("row", at)) for at, row in enumerate(rows)])
    return Run(Sight(), facts, (Goal(entries, goal, 0),), len(rows))


def pairs_of(going):
    """The list of the pairs (tuple of rows, target) of the goals of a run."""
    return [goal.pair() for goal in going.left]


def run(script, context, goal, *, facts=None):
    """The outcome of a run; raises InvalidFormula."""
    if not is_formula(goal):
        raise InvalidFormula(goal)
    going = begun(context, goal, {} if facts is None else facts)
    try:
        going.does(script.commands(), ())
    except Refused as refusal:
        return Stopped(refusal.path, refusal.reason)
    return Open(pairs_of(going)) if going.left else Shown(whole_term(going.frames))
