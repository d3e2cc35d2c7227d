"""Contexts: lists of named formulas, and which ones are wider than others."""

from addedgrounds.errors import InvalidNumber, InvalidRow, InvalidText, TooMany
from addedgrounds.formulas import FORMULA_DEPTH, atoms_of, is_formula, is_name, parsed, text_of
from addedgrounds.values import is_number


class KnownRows:
    """Rows that need no test, as they stand in contexts or come from a run.

    Their formulas may be nested deeper than those that callers pass, so that the
    constructor of Context would refuse them otherwise.
    """

    def __init__(self, rows):
        self.held = tuple(rows)


class Context:
    """A list of rows, the oldest one first, that never changes."""

    MOST = 40

    def __init__(self, rows=()):
        known = rows if isinstance(rows, KnownRows) else tested_rows(rows)
        if len(known.held) > Context.MOST:
            raise TooMany(Context.MOST)
        self.held = known.held

    @staticmethod
    def of(*rows):
        """The context with these rows."""
        return Context(rows)

    @staticmethod
    def read(text):
        """The context with a text; raises InvalidText with a line, then TooMany."""
        return Context(read_rows(text))

    def rows(self):
        """The list of the rows."""
        return list(self.held)

    def names(self):
        """The list of the names, in order."""
        return [row[0] for row in self.held]

    def words(self):
        """The ascending list of the names and atoms, without duplicates."""
        found = self.names()
        for row in self.held:
            found.extend(atoms_of(row[1]))
        return sorted(set(found))

    def text(self):
        """The text of the context."""
        return "\n".join([row_text(row) for row in self.held])

    def with_row(self, at, name, formula):
        """The context with one row more, which has the place at."""
        if not is_place(at, len(self.held) + 1):
            raise InvalidNumber(at)
        row = (name, formula)
        if not is_row(row):
            raise InvalidRow(at)
        return Context(KnownRows(self.held[:at] + (row,) + self.held[at:]))

    def without(self, *places):
        """The context without the rows at some places."""
        for place in places:
            if not is_place(place, len(self.held)):
                raise InvalidNumber(place)
        rows = [row for at, row in enumerate(self.held) if at not in places]
        return Context(KnownRows(rows))

    def places_of(self, other):
        """The least list of places at which the rows of another context stand, or None."""
        # The first place that fits leaves the most rows for the other ones, so
        # that taking it each time finds a list if there is one, and the least.
        places = []
        at = 0
        for row in other.held:
            while at < len(self.held) and self.held[at] != row:
                at += 1
            if at == len(self.held):
                return None
            places.append(at)
            at += 1
        return places

    def is_wider(self, other):
        """Whether this context is wider than another one."""
        return self.places_of(other) is not None

    def __add__(self, other):
        if not isinstance(other, Context):
            return NotImplemented
        return Context(KnownRows(self.held + other.held))

    def __contains__(self, x):
        return x in self.held

    def __len__(self):
        return len(self.held)

    def __eq__(self, other):
        return isinstance(other, Context) and self.held == other.held

    def __repr__(self):
        return f"Context({len(self.held)} rows)"


def is_row(value):
    """Whether any value is a row."""
    if not isinstance(value, tuple) or len(value) != 2:
        return False
    return is_name(value[0]) and is_formula(value[1])


def tested_rows(rows):
    """The rows of a list; raises InvalidRow with the index of the first wrong one."""
    for at, row in enumerate(rows):
        if not is_row(row):
            raise InvalidRow(at)
    return KnownRows(rows)


def is_place(value, many):
    """Whether any value is a number from 0 on that is less than another one."""
    return is_number(value) and 0 <= value < many


def row_text(row):
    """The text of a row."""
    return f"{row[0]}: {text_of(row[1])}"


def read_rows(text):
    """The rows with a text; raises InvalidText with the index of the first wrong line."""
    if not isinstance(text, str):
        raise InvalidText(0)
    lines = text.split("\n") if text else []
    rows = [read_row(line) for line in lines]
    if None in rows:
        raise InvalidText(rows.index(None))
    return KnownRows(rows)


def read_row(line):
    """The row with a text, or None for another text."""
    name, colon, rest = line.partition(": ")
    formula = parsed(rest, FORMULA_DEPTH, False)
    if not is_name(name) or formula is None:
        return None
    return (name, formula)
