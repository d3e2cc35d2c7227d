"""How a run looks at formulas and at the rows of its first goal."""

from addedgrounds.formulas import holes_of

ANY = ("hole", "a")
OTHER = ("hole", "b")


class Sight:
    """Looks at rows that are all known.

    A row begins with its name and its formula. A pattern is a pair of a name, or None
    for any name, and a shape.
    """

    def fits(self, pair, pattern):
        """Whether a pair of a name and a formula fits a pattern."""
        return fits_known(pair, pattern)

    def newest(self, rows, pattern):
        """The place of the newest row that fits a pattern, or None."""
        for at in reversed(range(len(rows))):
            if self.fits((rows[at][0], rows[at][1]), pattern):
                return at
        return None

    def counted(self, rows, word, count):
        """The place of the row that is this one from the newest, or the oldest, on, or None."""
        if count > len(rows):
            return None
        return count - 1 if word == "oldest" else len(rows) - count


def fits_known(pair, pattern):
    """Whether a pair fits a pattern; unknown parts and names are like atoms and names of their own."""
    if pattern[0] is not None and pattern[0] != pair[0]:
        return False
    return holes_of(pattern[1], pair[1]) is not None


def pattern_of(reference, target):
    """The pattern of the rows that a reference finds; a number finds rows of any kind."""
    word = reference[0]
    if word == "name":
        return (reference[1], ANY)
    if word == "shape":
        return (None, reference[1])
    if word == "both":
        return (reference[1], reference[2])
    if word == "goal":
        return (None, target)
    return (None, ("then", ANY, target)) if word == "toward" else (None, ANY)
