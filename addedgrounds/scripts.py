"""Scripts: lists of commands, some of which have blocks of commands."""

from addedgrounds.commands import COMMANDS, MARKS, blocks_of, head_of, head_text, is_command, names_in, read_head
from addedgrounds.errors import InvalidCommand, InvalidText, TooMany

DEEPEST_COMMAND = 3


class Script:
    """A list of commands that never changes."""

    MOST = 16

    def __init__(self, commands=()):
        self.held = tested_commands(commands, (), 1)
        self.pairs = pairs_in(self.held, ())
        if len(self.pairs) > Script.MOST:
            raise TooMany(Script.MOST)

    @staticmethod
    def read(text):
        """The script with a text; raises InvalidText with a line, then TooMany."""
        return Script(read_commands(text))

    def commands(self):
        """The list of the own commands; their blocks are tuples."""
        return list(self.held)

    def text(self):
        """The text of the script."""
        return "\n".join(lines_of(self.held))

    def walk(self):
        """Yields the pairs (path, command) of all commands, each ahead of those in its blocks."""
        yield from self.pairs

    def words(self):
        """The ascending list of the names and atoms in the commands, without duplicates."""
        found = []
        for path, command in self.pairs:
            found.extend(names_in(command[1:], COMMANDS[command[0]]))
        return sorted(set(found))

    def recalled(self):
        """The list of the names that are recalled, each once."""
        found = []
        for path, command in self.pairs:
            if command[0] == "recall" and command[1] not in found:
                found.append(command[1])
        return found

    def without(self, at):
        """The script without the own command with this index."""
        return Script([command for place, command in enumerate(self.held) if place != at])

    def __add__(self, other):
        if not isinstance(other, Script):
            return NotImplemented
        return Script(self.held + other.held)

    def __len__(self):
        return len(self.pairs)

    def __eq__(self, other):
        return isinstance(other, Script) and self.held == other.held

    def __repr__(self):
        return f"Script({len(self.pairs)} commands)"


def tested_commands(commands, path, depth):
    """The commands of a list with tuples as blocks; raises InvalidCommand with a path."""
    found = []
    for at, command in enumerate(commands):
        here = path + (at,)
        if depth > DEEPEST_COMMAND or not is_command(command):
            raise InvalidCommand(here)
        blocks = blocks_of(command)
        tested = [tested_commands(block, here + (number,), depth + 1) for number, block in enumerate(blocks)]
        found.append(head_of(command) + tuple(tested))
    return tuple(found)


def pairs_in(commands, path):
    """The list of the pairs (path, command) of commands and those in their blocks."""
    found = []
    for at, command in enumerate(commands):
        here = path + (at,)
        found.append((here, command))
        for number, block in enumerate(blocks_of(command)):
            found.extend(pairs_in(block, here + (number,)))
    return found


def lines_of(commands):
    """The list of the lines of commands."""
    found = []
    for command in commands:
        found.append(head_text(command))
        for mark, block in zip(MARKS.get(command[0], ()), blocks_of(command)):
            found.extend(lines_of(block))
            found.append(mark)
    return found


def read_commands(text):
    """The commands with a text; raises InvalidText with the first line that cannot stand there."""
    if not isinstance(text, str):
        raise InvalidText(0)
    lines = text.split("\n") if text else []
    commands, at = read_block(lines, 0, 1)
    if at < len(lines):
        raise InvalidText(at)
    return commands


def read_block(lines, at, depth):
    """The commands from a line on, and the index of the mark, or the end, behind them."""
    found = []
    while at < len(lines) and lines[at] not in ("else", "end"):
        command, at = read_command(lines, at, depth)
        found.append(command)
    return tuple(found), at


def read_command(lines, at, depth):
    """The command that begins at a line, and the index of the line behind it."""
    head = read_head(lines[at])
    if head is None or depth > DEEPEST_COMMAND:
        raise InvalidText(at)
    at += 1
    blocks = []
    for mark in MARKS.get(head[0], ()):
        block, at = read_block(lines, at, depth + 1)
        if at == len(lines) or lines[at] != mark:
            raise InvalidText(at)
        blocks.append(block)
        at += 1
    return head + tuple(blocks), at
