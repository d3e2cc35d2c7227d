"""Which formulas have to be put in place of unknown parts to make formulas equal."""


class Web:
    """Nodes that stand for formulas; some are joined, as they stand for equal ones.

    Equal unknown parts have one node. A chain of unknown parts, in which each one
    doubles the next, so needs few nodes, although its formulas would be large.
    """

    def __init__(self):
        self.forms = []
        self.sides = []
        self.links = []
        self.spots = {}

    def node_of(self, formula):
        """The number of a node for a formula, still without nodes for its sides."""
        unknown = formula[0] == "part"
        if unknown and formula[1] in self.spots:
            return self.spots[formula[1]]
        at = len(self.forms)
        self.forms.append(formula)
        self.sides.append(())
        self.links.append(at)
        if unknown:
            self.spots[formula[1]] = at
        return at

    def grow(self, formula):
        """The number of a node for a formula, with nodes for all within it."""
        at = len(self.forms)
        top = self.node_of(formula)
        while at < len(self.forms):
            form = self.forms[at]
            if len(form) == 3:
                self.sides[at] = (self.node_of(form[1]), self.node_of(form[2]))
            at += 1
        return top

    def root(self, at):
        """The node that tells the formula of all nodes that are joined with one."""
        while self.links[at] != at:
            self.links[at] = self.links[self.links[at]]
            at = self.links[at]
        return at

    def unite(self, one, other):
        """Joins two nodes and what follows from it; False if formulas clash."""
        waiting = [(one, other)]
        while waiting:
            first, second = waiting.pop()
            low, high = self.root(first), self.root(second)
            if low == high:
                continue
            if self.forms[low][0] != "part":
                low, high = high, low
            if self.forms[low][0] != "part":
                if not same_head(self.forms[low], self.forms[high]):
                    return False
                waiting.extend(list(zip(self.sides[low], self.sides[high])))
            self.links[low] = high
        return True

    def ordered(self):
        """The roots, each ahead of those within it, or None if one is within itself."""
        roots = [at for at in range(len(self.links)) if self.links[at] == at]
        above = {at: 0 for at in roots}
        for at in roots:
            for side in self.sides[at]:
                above[self.root(side)] += 1
        found = [at for at in roots if above[at] == 0]
        done = 0
        while done < len(found):
            at = found[done]
            for side in self.sides[at]:
                inner = self.root(side)
                above[inner] -= 1
                if above[inner] == 0:
                    found.append(inner)
            done += 1
        return found if len(found) == len(roots) else None

    def sizes(self, order):
        """A dict from the ordered roots to the numbers of parts of their formulas."""
        found = {}
        for at in reversed(order):
            found[at] = 1 + sum([found[self.root(side)] for side in self.sides[at]])
        return found

    def formulas(self, order):
        """A dict from the ordered roots to their formulas."""
        found = {}
        for at in reversed(order):
            form = self.forms[at]
            sides = [found[self.root(side)] for side in self.sides[at]]
            found[at] = (form[0], *sides) if sides else form
        return found

    def bound(self):
        """The list of the pairs (unknown part, root) where another node is the root."""
        pairs = [(part, self.root(at)) for part, at in self.spots.items()]
        return [(part, at) for part, at in pairs if at != self.spots[part]]


def same_head(one, other):
    """Whether two formulas may be equal, as far as their own signs and names tell."""
    return one[0] == other[0] if len(one) == 3 else one == other
