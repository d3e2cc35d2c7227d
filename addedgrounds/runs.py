"""Runs: lists of goals, what commands do with them, and the terms that come of it."""

from addedgrounds.errors import Refused
from addedgrounds.looks import pattern_of
from addedgrounds.moves import MOVES

MOST_GOALS = 12


class Goal:
    """Rows and a target, which are not changed.

    Each row has its name, its formula and a term that tells the formula. The spot is a
    number for the place of the goal's own term in the term of the whole run.
    """

    def __init__(self, entries, target, spot):
        self.entries = entries
        self.target = target
        self.spot = spot

    def with_entry(self, name, formula, told):
        """The goal with a row more, behind all others."""
        return Goal(self.entries + ((name, formula, told),), self.target, self.spot)

    def cut(self, at):
        """The goal without the row at a place."""
        return Goal(self.entries[:at] + self.entries[at + 1:], self.target, self.spot)

    def aimed(self, target, spot):
        """Another goal, with the same rows and another target."""
        return Goal(self.entries, target, spot)

    def pair(self):
        """The pair of the tuple of the rows, without terms, and the target."""
        return tuple([(name, formula) for name, formula, told in self.entries]), self.target


class Run:
    """The goals that are left of a run, and how the terms of goals come from others.

    A frame is a term with ("spot", number) in place of terms of other goals. Frames that
    come from what a block did before it refused do no harm: the goals of the time before
    the block get other frames, and those frames do not lead to the others.
    """

    def __init__(self, sight, facts, left, last):
        self.sight = sight
        self.given = facts
        self.left = left
        self.last = last
        self.frames = {}

    def after(self):
        """A run that goes on from here, without the frames so far."""
        return Run(self.sight, self.given, self.left, self.last)

    def fresh(self):
        """A number that is no label and no spot yet."""
        self.last += 1
        return self.last

    def builds(self, goal, frame):
        """Keeps how the term of a goal comes from those of other goals."""
        self.frames[goal.spot] = frame

    def fact(self, name):
        """The formula of a fact, or None."""
        return self.given.get(name)

    def is_of(self, formula, shape):
        """Whether a formula is of a shape."""
        return self.sight.fits((None, formula), (None, shape))

    def look(self, goal, reference):
        """The place of the row that a reference finds in a goal, or None."""
        if reference[0] in ("newest", "oldest"):
            return self.sight.counted(goal.entries, reference[0], reference[1])
        return self.sight.newest(goal.entries, pattern_of(reference, goal.target))

    def does(self, commands, path):
        """Does commands, of which the first one has a path that ends in 0; raises Refused."""
        for at, command in enumerate(commands):
            here = path + (at,)
            if command[0] in MOVES:
                self.does_move(command, here)
            elif command[0] == "first":
                self.does_first(command, here)
            elif command[0] == "all":
                self.does_all(command, here)
            else:
                self.does_turns(command, here)

    def does_move(self, command, path):
        """Does a command without blocks."""
        if not self.left:
            raise Refused(path, "empty")
        action = MOVES[command[0]]
        goals = action(self, self.left[0], command, path)
        self.left = tuple(goals) + self.left[1:]
        self.bounds_goals(path)

    def does_first(self, command, path):
        """Does the first block, or the second one if the first one refuses."""
        if not self.tries(command[1], path + (0,)):
            self.does(command[2], path + (1,))

    def does_turns(self, command, path):
        """Does the block of a command try or repeat until it refuses or is done often enough."""
        turns = command[1] if command[0] == "repeat" else 1
        while turns > 0 and self.tries(command[-1], path + (0,)):
            turns -= 1

    def does_all(self, command, path):
        """Does a block on each goal by itself."""
        done = []
        for goal in list(self.left):
            self.left = (goal,)
            self.does(command[1], path + (0,))
            done.extend(self.left)
        self.left = tuple(done)
        self.bounds_goals(path)

    def bounds_goals(self, path):
        """Refuses if there are too many goals."""
        if len(self.left) > MOST_GOALS:
            raise Refused(path, "many")

    def tries(self, block, path):
        """Does a block; if it refuses, all is as before, and it returns False."""
        before = self.left
        try:
            self.does(block, path)
        except Refused:
            self.left = before
            return False
        return True


def whole_term(frames):
    """The term of the goal with the spot 0, from the frames of a run that left no goals."""
    # Each spot is greater than the one whose frame it stands in, so that the terms
    # can be built from the last one on, without calls within calls.
    built = {}
    for spot in sorted(list(frames), reverse=True):
        frame = frames[spot]
        if all([item[1] in built for item in spots_in(frame)]):
            built[spot] = tuple([built[item[1]] if is_spot(item) else item for item in frame])
    return built[0]


def spots_in(frame):
    """The list of the items of a frame that stand for terms of other goals."""
    return [item for item in frame if is_spot(item)]


def is_spot(item):
    """Whether an item of a frame stands for the term of another goal."""
    return isinstance(item, tuple) and item[0] == "spot"
