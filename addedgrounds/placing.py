"""How the entries of a case may stand at the rows of a context."""

from addedgrounds.looks import fits_known
from addedgrounds.unknowns import changed, matched
from addedgrounds.values import is_number


class Placing:
    """A search for names, formulas and rows that make a case a context.

    Names and formulas that are known so far stand in two dicts. A pair that fits a
    pattern with the unknown parts taken as they are fits whatever they are, so that a
    place for which this holds can be left at once.
    """

    def __init__(self, rows, places, apart):
        self.standing = rows
        self.owned = [at in places for at in range(len(rows))]
        self.apart = apart

    def makes(self, entries):
        """Whether entries make all rows."""
        return self.reaches(entries, len(self.standing), {}, {}, ())

    def reaches(self, entries, end, names, parts, absent):
        """Whether entries make the rows ahead of an end, from the newest one on.

        Absent has the pairs of the rows in gaps and of the patterns that they do not fit.
        """
        if not entries:
            return end == 0 and self.holds_apart(names, parts, absent)
        entry, older = entries[-1], entries[:-1]
        if entry[0] == "gap":
            return self.passes_gap(entry, older, end, names, parts, absent)
        if end == 0 or self.owned[end - 1] != (entry[0] == "own"):
            return False
        row = self.standing[end - 1]
        called, found = with_name(names, entry[1], row[0]), matched(entry[2], row[1], parts)
        return called is not None and found is not None and self.reaches(older, end - 1, called, found, absent)

    def passes_gap(self, gap, older, end, names, parts, absent):
        """As reaches, where a gap stands behind other entries."""
        while not self.reaches(older, end, names, parts, absent):
            if end == 0 or self.owned[end - 1]:
                return False
            more = tuple([(self.standing[end - 1], pattern) for pattern in gap[2]])
            if not self.differs(names, parts, more):
                return False
            absent = absent + more
            end -= 1
        return True

    def differs(self, names, parts, pairs):
        """Whether no first one of some pairs fits the second one, as far as it is known."""
        return not any([
            fits_known(changed(pair, names, parts), changed(pattern, names, parts)) for pair, pattern in pairs])

    def holds_apart(self, names, parts, absent):
        """Whether all that is apart does not fit, nor the rows in gaps."""
        return self.differs(names, parts, self.apart) and self.differs(names, parts, absent)


def with_name(names, name, known):
    """A dict with more unknown names than another one that makes a name a known one, or None."""
    if names.get(name, known if is_number(name) else name) != known:
        return None
    return {**names, name: known}
