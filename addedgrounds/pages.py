"""Pages: the texts of shelves."""

from addedgrounds.contexts import Context, read_row, row_text
from addedgrounds.deeds import rested
from addedgrounds.errors import InvalidPage, InvalidText, TooMany
from addedgrounds.formulas import FORMULA_DEPTH, is_name, parsed, text_of
from addedgrounds.scripts import Script, read_block
from addedgrounds.shelf import Shelf, shelf_with
from addedgrounds.steady import MOST_ROWS

# No line that is due is equal to it or begins with it.
UNENDED = "\n"


def write_page(shelf):
    """The page of a shelf."""
    lines = []
    for name in shelf.names():
        lines.extend(lines_of_entry(name, shelf.claim_of(name)))
    return "".join([f"{line}\n" for line in lines])


def lines_of_entry(name, claim):
    """The list of the lines of an entry."""
    lines = [f"fact {name}"]
    lines.extend([f"given {row_text(row)}" for row in claim.context.rows()])
    lines.append(f"goal {text_of(claim.goal)}")
    if len(claim.script) > 0:
        lines.extend(claim.script.text().split("\n"))
    return lines + ["done"]


def read_page(text):
    """The shelf with a page; raises InvalidPage with the index of the first wrong line."""
    if not isinstance(text, str):
        raise InvalidPage(0)
    lines = page_lines(text)
    stock, starts = {}, {}
    at = 0
    while at < len(lines):
        name = read_name(lines, at, stock)
        starts[name] = at
        rows, at = read_given(lines, at + 1)
        goal = read_goal(lines, at)
        script, at = read_script(lines, at + 1)
        stock[name] = (Context(rows), goal, script)
    for name in stock:
        if not is_grounded(stock, name):
            raise InvalidPage(starts[name])
    return shelf_with(stock)


def page_lines(text):
    """The lines of a page; a last one without a line feed becomes one that is never due."""
    lines = text.split("\n")
    if lines.pop():
        lines.append(UNENDED)
    return lines


def rest_of(lines, at, word):
    """What stands behind a word and a space in a line, or None if the line is another one or lacks."""
    if at >= len(lines) or not lines[at].startswith(word + " "):
        return None
    return lines[at][len(word) + 1:]


def read_name(lines, at, stock):
    """The name of the entry that begins at a line."""
    name = rest_of(lines, at, "fact")
    if not is_name(name) or name in stock or len(stock) == Shelf.MOST:
        raise InvalidPage(at)
    return name


def read_given(lines, at):
    """The rows from a line on, and the index of the line behind them."""
    rows = []
    text = rest_of(lines, at, "given")
    while text is not None:
        row = read_row(text)
        if row is None or len(rows) == MOST_ROWS:
            raise InvalidPage(at)
        rows.append(row)
        at += 1
        text = rest_of(lines, at, "given")
    return rows, at


def read_goal(lines, at):
    """The goal in a line."""
    goal = parsed(rest_of(lines, at, "goal"), FORMULA_DEPTH, False)
    if goal is None:
        raise InvalidPage(at)
    return goal


def read_script(lines, at):
    """The script from a line on, and the index of the line behind its line done."""
    end = at
    while end < len(lines) and lines[end] != "done":
        end += 1
    commands = read_whole_block(lines[at:end], at)
    if end == len(lines):
        raise InvalidPage(end)
    try:
        return Script(commands), end + 1
    except TooMany:
        raise InvalidPage(end) from None


def read_whole_block(lines, start):
    """The commands with these lines, the first of which has an index in the page."""
    try:
        commands, behind = read_block(lines, 0, 1)
    except InvalidText as wrong:
        raise InvalidPage(start + wrong.line) from None
    if behind < len(lines):
        raise InvalidPage(start + behind)
    return commands


def is_grounded(stock, name):
    """Whether an entry recalls names of entries alone and does not rest on itself."""
    known = all([recalled in stock for recalled in stock[name][2].recalled()])
    return known and name not in rested(stock, name)
