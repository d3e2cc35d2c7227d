"""What several modules ask of values of any kind."""

DEEPEST = 12


def is_number(value):
    """Whether any value is a number; True and False are none."""
    return isinstance(value, int) and not isinstance(value, bool)


def copied(value, depth=DEEPEST):
    """Any value, with copies of the lists and dicts in it."""
    # Values that are nested deeper are formulas that were returned. They have no
    # lists, and the same formula may stand in them at very many places.
    if depth == 0:
        return value
    if isinstance(value, list):
        return [copied(item, depth - 1) for item in value]
    if isinstance(value, tuple):
        return tuple([copied(item, depth - 1) for item in value])
    if isinstance(value, dict):
        return {key: copied(value[key], depth - 1) for key in value}
    return value
