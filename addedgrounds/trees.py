"""Trees of cases: their nodes, whether values are such nodes, and contexts for which cases stand."""

from addedgrounds.cases import first_case, refined
from addedgrounds.contexts import Context, KnownRows
from addedgrounds.errors import InvalidNumber, TooLarge, TooMany
from addedgrounds.formulas import LETTERS, filled
from addedgrounds.unknowns import marks_of
from addedgrounds.values import are_same, is_number

MOST_NODES = 4000


def nodes_of(context, ask, limit):
    """The list of the nodes of a tree; raises InvalidNumber, TooMany, TooLarge.

    Ask gives the pair (question, None) or (None, told) of a case.
    """
    require_limit(limit)
    cases = [first_case(context)]
    nodes = []
    while len(nodes) < len(cases):
        case = cases[len(nodes)]
        question, told = ask(case)
        if question is None:
            nodes.append(("end", case, told))
            continue
        start = len(cases)
        cases.extend(refined(case, question))
        if len(cases) > limit:
            raise TooMany(limit)
        nodes.append(("ask", case, question, tuple(range(start, len(cases)))))
    return nodes


def require_limit(limit):
    """Raises InvalidNumber for any value that is no most number of nodes."""
    if not is_number(limit) or not 1 <= limit <= MOST_NODES:
        raise InvalidNumber(limit)


def is_paper(nodes, context, ask, due):
    """Whether any value has the nodes of a tree, all of whose ends are told as is due."""
    if not isinstance(nodes, (list, tuple)) or len(nodes) == 0:
        return False
    waiting = [(0, first_case(context))]
    seen = {0: True}
    while waiting:
        place, case = waiting.pop()
        question, told = ask(case)
        if question is None:
            if told != due or not are_same(nodes[place], ("end", case, due)):
                return False
            continue
        split = split_or_none(case, question)
        numbers = numbers_of(nodes[place])
        if split is None or len(numbers) != len(split):
            return False
        if not are_same(nodes[place], ("ask", case, question, numbers)):
            return False
        for number, inner in zip(numbers, split):
            if not is_number(number) or not place < number < len(nodes) or number in seen:
                return False
            seen[number] = True
            waiting.append((number, inner))
    return len(seen) == len(nodes)


def split_or_none(case, question):
    """The list of the cases into which a question splits a case, or None if they would be too large."""
    try:
        return refined(case, question)
    except TooLarge:
        return None


def numbers_of(node):
    """What stands at the numbers of any value that may be a node, or an empty tuple."""
    if not isinstance(node, tuple) or len(node) != 4 or not isinstance(node[3], tuple):
        return ()
    return node[3]


def example_of(case, words, gap):
    """A context for which a case stands, and the list of the places of its own rows.

    Its new names and atoms are unlike these words. No gap has rows, but for the one with
    the number gap: it has one row with a new name and a new atom. Raises TooMany.
    """
    entries, apart = case
    news = [entry for entry in entries if entry[0] == "new"]
    parts = sorted(set([number for entry in news for number in marks_of(entry[2], "part")]))
    numbers = sorted(set([entry[1] for entry in news if is_number(entry[1])]))
    name, atom, *others = new_words(2 + len(parts) + len(numbers), words)
    atoms = {number: ("atom", word) for number, word in zip(parts, others)}
    names = dict(zip(numbers, others[len(parts):]))
    rows, places = [], []
    for entry in entries:
        if entry[0] == "own":
            places.append(len(rows))
        if entry[0] != "gap":
            rows.append((names.get(entry[1], entry[1]), filled(entry[2], atoms)))
        elif entry[1] == gap:
            rows.append((name, ("atom", atom)))
    return Context(KnownRows(rows)), places


def new_words(many, words):
    """A list of so many names that are unlike one another and unlike some words."""
    found = []
    number = 0
    while len(found) < many:
        word = word_of(number)
        if word not in words:
            found.append(word)
        number += 1
    return found


def word_of(number):
    """The name that this number has; the short ones come first."""
    found = ""
    while number >= 0:
        found = LETTERS[number % len(LETTERS)] + found
        number = number // len(LETTERS) - 1
    return found


def stand_at(context, wider, places):
    """Whether any value is a list of places at which the rows of a context stand in another one."""
    if not isinstance(places, (list, tuple)) or not all([is_number(place) for place in places]):
        return False
    rows = wider.rows()
    if list(places) != sorted(set(places)) or not all([0 <= place < len(rows) for place in places]):
        return False
    return [rows[place] for place in places] == context.rows()
