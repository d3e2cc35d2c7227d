"""Pairs and patterns with unknown parts and names: how they fit, and what stands in place of these.

A pair has a name and a formula, a pattern a name and a shape, where the name may be None.
An unknown name is a number, and an unknown part is ("part", number).
"""

from addedgrounds.equating import Web
from addedgrounds.formulas import filled, unified
from addedgrounds.values import is_number


def can_fit(pair, pattern):
    """Whether formulas and names in place of the unknown ones make a pair fit a pattern."""
    if pattern[0] is not None and pattern[0] != pair[0] and not is_number(pair[0]):
        return False
    web = Web()
    # The letters of the holes are no numbers, so that they are unlike all unknown parts.
    table = {letter: ("part", letter) for letter in letters_of(pattern[1])}
    joined = web.unite(web.grow(pair[1]), web.grow(without_holes(pattern[1], table)))
    return joined and web.ordered() is not None


def made_to_fit(pair, pattern, fresh):
    """What makes a pair fit a pattern: a dict for unknown names and one for unknown parts.

    The holes of the pattern become unknown parts with numbers from fresh on.
    """
    names = {pair[0]: pattern[0]} if is_number(pair[0]) and pattern[0] is not None else {}
    return names, unified(pair[1], with_fresh_parts(pattern[1], fresh))


def with_fresh_parts(shape, fresh):
    """The formula of a shape with unknown parts, with numbers from fresh on, for its holes."""
    table = {letter: ("part", fresh + at) for at, letter in enumerate(letters_of(shape))}
    return without_holes(shape, table)


def without_holes(shape, table):
    """The formula of a shape with those of a dict in place of its holes."""
    if shape[0] == "hole":
        return table[shape[1]]
    if len(shape) == 3:
        return (shape[0], without_holes(shape[1], table), without_holes(shape[2], table))
    return shape


def letters_of(shape):
    """The list of the letters of the holes of a shape, each once."""
    return marks_of(shape, "hole")


def marks_of(shape, word):
    """The list of what stands behind this word in the holes or the unknown parts of a shape, each once."""
    found = []
    waiting = [shape]
    while waiting:
        part = waiting.pop()
        if part[0] == word:
            if part[1] not in found:
                found.append(part[1])
        elif len(part) == 3:
            waiting.extend(part[1:])
    return found


def changed(pair, names, parts):
    """A pair or a pattern with those of two dicts in place of unknown names and unknown parts."""
    return (names.get(pair[0], pair[0]), filled(pair[1], parts))


def matched(formula, known, parts):
    """A dict with more unknown parts than another one that makes a formula a known one, or None."""
    found = dict(parts)
    waiting = [(formula, known)]
    while waiting:
        part, worth = waiting.pop()
        if part[0] == "part":
            if found.setdefault(part[1], worth) != worth:
                return None
        elif len(part) == 3:
            if part[0] != worth[0]:
                return None
            waiting.extend([(part[1], worth[1]), (part[2], worth[2])])
        elif part != worth:
            return None
    return found
