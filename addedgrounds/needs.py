"""What a claim needs: which own rows, which commands, and which orders of the rows."""

from addedgrounds.contexts import Context, KnownRows
from addedgrounds.errors import TooMany
from addedgrounds.steady import Claim, decide
from addedgrounds.trees import require_limit

MOST_GROUNDS = 5
MOST_ORDERED = 4


def least_grounds(claim, *, limit=4000):
    """The list of the least tuples of places of own rows with which alone a claim is steady."""
    require_limit(limit)
    require_rows(claim, MOST_GROUNDS)
    found = []
    for places in choices_of(len(claim.context)):
        # With more rows than are enough a claim is steady, too, but not with the least.
        enough = [less for less in found if all([place in places for place in less])]
        if not enough and decide(with_rows(claim, places), limit=limit):
            found.append(places)
    return found


def spare_commands(claim, *, limit=4000):
    """The list of the indexes of own commands without each of which, by itself, a claim is steady."""
    require_limit(limit)
    script = claim.script
    return [at for at in range(len(script.commands())) if decide(with_script(claim, script.without(at)), limit=limit)]


def steady_orders(claim, *, limit=4000):
    """Yields the tuples of places that are orders of all own rows in which a claim is steady."""
    require_limit(limit)
    require_rows(claim, MOST_ORDERED)
    # All are decided ahead of the first one, as errors are due when that one is asked for.
    found = [places for places in orders_of(len(claim.context)) if decide(with_rows(claim, places), limit=limit)]
    yield from found


def require_rows(claim, most):
    """Raises TooMany for a claim with more own rows."""
    if len(claim.context) > most:
        raise TooMany(most)


def with_rows(claim, places):
    """A claim whose own rows are those at some places, in their order."""
    rows = claim.context.rows()
    context = Context(KnownRows([rows[place] for place in places]))
    return Claim(claim.script, context, claim.goal, facts=claim.facts())


def with_script(claim, script):
    """A claim with another script."""
    return Claim(script, claim.context, claim.goal, facts=claim.facts())


def choices_of(many):
    """The list of the ascending tuples of numbers below another one, the short ones first."""
    found = [()]
    for number in range(many):
        found = found + [places + (number,) for places in found]
    return sorted(found, key=lambda places: (len(places), places))


def orders_of(many):
    """The ascending list of the orders of the numbers below another one."""
    found = [()]
    for length in range(many):
        found = [places + (number,) for places in found for number in range(many) if number not in places]
    return found
