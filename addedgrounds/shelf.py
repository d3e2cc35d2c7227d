"""Shelves: facts by name, whose scripts may recall one another."""

from addedgrounds.deeds import is_as_before, is_deed, rested, stated, stock_after, users_in
from addedgrounds.errors import InvalidDeed, InvalidNumber, NothingLeft, UnknownName
from addedgrounds.formulas import is_name
from addedgrounds.steady import Claim, decide
from addedgrounds.values import is_number


class Shelf:
    """Entries by name, with steps that can be undone and redone, and verdicts that are kept.

    The stock is a dict from the names to the entries, tuples of a context, a goal and a
    script. A step puts another stock in its place and changes none.
    """

    MOST = 20

    def __init__(self, *, limit=12):
        if not is_limit(limit, 0):
            raise InvalidNumber(limit)
        self.room = limit
        self.stock = {}
        self.past = []
        self.future = []
        self.judged = {}
        self.tally = 0
        self.doing = False

    @property
    def limit(self):
        """How many entries there may be for a new one not to be refused."""
        return self.room

    @limit.setter
    def limit(self, value):
        """Sets another limit; raises InvalidNumber."""
        self.set_limit(value)

    def set_limit(self, value):
        """Sets another limit; raises InvalidNumber."""
        if not is_limit(value, len(self.stock)):
            raise InvalidNumber(value)
        self.room = value

    @property
    def busy(self):
        """Whether deeds are being done."""
        return self.doing

    @property
    def computed(self):
        """The number of verdicts that were computed."""
        return self.tally

    def apply(self, *deeds):
        """Does deeds as one step; raises InvalidDeed, then the errors of the deeds."""
        for at, deed in enumerate(deeds):
            if not is_deed(deed):
                raise InvalidDeed(at)
        self.doing = True
        try:
            following = stock_after(self.stock, deeds, self.room)
        finally:
            self.doing = False
        self.past.append(self.stock)
        self.future = []
        self.turn_to(following)

    def undo(self):
        """Undoes the last step; raises NothingLeft."""
        if not self.past:
            raise NothingLeft()
        self.future.append(self.stock)
        self.turn_to(self.past.pop())

    def redo(self):
        """Does the step again that was undone last; raises NothingLeft."""
        if not self.future:
            raise NothingLeft()
        self.past.append(self.stock)
        self.turn_to(self.future.pop())

    def turn_to(self, stock):
        """Puts another stock in the place of this one, and drops the verdicts that it may change."""
        self.judged = {name: self.judged[name] for name in self.judged if is_as_before(name, self.stock, stock)}
        self.stock = stock

    def history(self):
        """The pair of the numbers of steps that can be undone and redone."""
        return len(self.past), len(self.future)

    def names(self):
        """The list of the names, in order."""
        return list(self.stock)

    def claim_of(self, name):
        """The claim of an entry, with what its script recalls as facts; raises UnknownName."""
        context, goal, script = self.entry(name)
        facts = {recalled: stated(self.stock, recalled) for recalled in script.recalled()}
        return Claim(script, context, goal, facts=facts)

    def statement(self, name):
        """The formula that an entry states; raises UnknownName."""
        self.entry(name)
        return stated(self.stock, name)

    def users(self, name):
        """The ascending list of the names of the entries that recall one; raises UnknownName."""
        self.entry(name)
        return users_in(self.stock, name)

    def rests(self, name):
        """The ascending list of the names of the entries on which one rests; raises UnknownName."""
        self.entry(name)
        return rested(self.stock, name)

    def verdict(self, name):
        """The answer of decide for the claim of an entry, which is kept; raises UnknownName."""
        self.entry(name)
        self.judge([name])
        return self.judged[name]

    def is_sound(self, name):
        """Whether an entry and all on which it rests are steady; raises UnknownName."""
        names = [name] + self.rests(name)
        self.judge(names)
        return all([bool(self.judged[needed]) for needed in names])

    def judge(self, names):
        """Computes the verdicts of some entries that are not kept, and keeps them."""
        # If one of them is refused, none is kept or counted.
        found = {name: decide(self.claim_of(name)) for name in names if name not in self.judged}
        self.judged.update(found)
        self.tally += len(found)

    def kept(self):
        """The ascending list of the names whose verdicts are kept."""
        return sorted(list(self.judged))

    def entry(self, name):
        """The entry with a name; raises UnknownName for any other value."""
        if name not in self:
            raise UnknownName(name)
        return self.stock[name]

    def twin(self):
        """An independent shelf with the same entries, limit, steps and kept verdicts."""
        other = Shelf(limit=self.room)
        other.stock = self.stock
        other.past = list(self.past)
        other.future = list(self.future)
        other.judged = dict(self.judged)
        other.tally = self.tally
        return other

    def __contains__(self, x):
        return is_name(x) and x in self.stock

    def __len__(self):
        return len(self.stock)

    def __eq__(self, other):
        return isinstance(other, Shelf) and list(self.stock.items()) == list(other.stock.items())

    def __repr__(self):
        return f"Shelf({len(self.stock)} entries)"


def is_limit(value, least):
    """Whether any value is a number of entries that a shelf may have, and not less than another one."""
    return is_number(value) and 1 <= value <= Shelf.MOST and value >= least


def shelf_with(stock):
    """A shelf with these entries, as many as may be, and without steps."""
    shelf = Shelf(limit=Shelf.MOST)
    shelf.stock = stock
    return shelf
