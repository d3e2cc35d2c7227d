"""What several modules ask of values of any kind."""

DEEPEST = 12


def is_number(value):
    """Whether any value is a number; True and False are none."""
    return isinstance(value, int) and not isinstance(value, bool)


def copied(value, depth=DEEPEST):
    """Any value, with copies of the lists and dicts in it."""
    # Values that are nested deeper are formulas that were returned. They have no
    # lists, and the same formula may stand in them at very many places.
    if depth == 0:
        return value
    if isinstance(value, list):
        return [copied(item, depth - 1) for item in value]
    if isinstance(value, tuple):
        return tuple([copied(item, depth - 1) for item in value])
    if isinstance(value, dict):
        return {key: copied(value[key], depth - 1) for key in value}
    return value


def copied_whole(value):
    """Any value, with copies of the lists in it, however deep they stand."""
    # Without calls within calls, as values that were returned may be nested deep.
    waiting = [(value, False)]
    done = []
    while waiting:
        item, seen = waiting.pop()
        if not isinstance(item, (list, tuple)):
            done.append(item)
        elif not seen:
            waiting.append((item, True))
            waiting.extend([(inner, False) for inner in item])
        else:
            start = len(done) - len(item)
            inside = done[start:][::-1]
            del done[start:]
            done.append(inside if isinstance(item, list) else tuple(inside))
    return done[0]


def are_same(one, other):
    """Whether any values are equal, where True is no number and a list is no tuple."""
    waiting = [(one, other)]
    while waiting:
        first, second = waiting.pop()
        if kind_of(first) != kind_of(second):
            return False
        if not isinstance(first, (list, tuple)):
            if first != second:
                return False
        elif len(first) != len(second):
            return False
        else:
            waiting.extend(list(zip(first, second)))
    return True


def kind_of(value):
    """A word for the kind of any value, as far as equal values of Python may differ in it."""
    if isinstance(value, bool):
        return "boolean"
    if isinstance(value, list):
        return "list"
    return "tuple" if isinstance(value, tuple) else "other"
