"""Stocks of entries: what deeds make of them, and how the entries hang together.

A stock is a dict from names to entries, tuples of a context, a goal and a script.
"""

from addedgrounds.contexts import Context
from addedgrounds.errors import Circular, Full, InvalidName, NameInUse, TooMany, UnknownName
from addedgrounds.formulas import is_formula, is_name
from addedgrounds.scripts import Script
from addedgrounds.steady import MOST_ROWS
from addedgrounds.terms import statement

# How many items a deed with this word has.
SIZES = {"fact": 5, "script": 3, "drop": 2}


def is_deed(value):
    """Whether any value has the form of a deed."""
    if not isinstance(value, tuple) or len(value) == 0 or not isinstance(value[0], str):
        return False
    if SIZES.get(value[0]) != len(value):
        return False
    if value[0] == "fact":
        return isinstance(value[2], Context) and is_formula(value[3]) and isinstance(value[4], Script)
    return value[0] == "drop" or isinstance(value[2], Script)


def stock_after(stock, deeds, limit):
    """The stock that comes of another one by deeds, in order; raises their errors."""
    found = dict(stock)
    for deed in deeds:
        if deed[0] == "fact":
            found = with_fact(found, deed, limit)
        elif deed[0] == "script":
            found = with_script(found, deed[1], deed[2])
        else:
            found = without_entry(found, deed[1])
    return found


def with_fact(stock, deed, limit):
    """A stock with an entry more, or with another entry in the place of one."""
    word, name, context, goal, script = deed
    if not is_name(name):
        raise InvalidName(name)
    if len(context) > MOST_ROWS:
        raise TooMany(MOST_ROWS)
    if name not in stock and len(stock) >= limit:
        raise Full(limit)
    return with_entry(stock, name, (context, goal, script))


def with_script(stock, name, script):
    """A stock with another script for an entry."""
    require_entry(stock, name)
    context, goal, former = stock[name]
    return with_entry(stock, name, (context, goal, script))


def with_entry(stock, name, entry):
    """A stock with an entry; raises UnknownName and Circular for what its script recalls."""
    found = {**stock, name: entry}
    for recalled in entry[2].recalled():
        if recalled not in found:
            raise UnknownName(recalled)
    if name in rested(found, name):
        raise Circular(name)
    return found


def without_entry(stock, name):
    """A stock without an entry; raises NameInUse if another one recalls it."""
    require_entry(stock, name)
    users = users_in(stock, name)
    if users:
        raise NameInUse(users[0])
    return {other: stock[other] for other in stock if other != name}


def require_entry(stock, name):
    """Raises UnknownName for any value that is no name of an entry."""
    if not is_name(name) or name not in stock:
        raise UnknownName(name)


def users_in(stock, name):
    """The ascending list of the names of the entries that recall a name directly."""
    return sorted([user for user in stock if name in stock[user][2].recalled()])


def rested(stock, name):
    """The ascending list of the names that an entry recalls, directly or through other entries."""
    found = []
    waiting = [name]
    while waiting:
        at = waiting.pop()
        recalled = stock[at][2].recalled() if at in stock else []
        for other in recalled:
            if other not in found:
                found.append(other)
                waiting.append(other)
    return sorted(found)


def stated(stock, name):
    """The formula that an entry states."""
    context, goal, script = stock[name]
    return statement(context, goal)


def is_as_before(name, stock, later):
    """Whether an entry, and what the ones that it recalls state, are equal in a later stock."""
    if name not in later or stock[name] != later[name]:
        return False
    return all([stated(stock, other) == stated(later, other) for other in stock[name][2].recalled()])
