"""References and commands: their forms, their texts and the words in them."""

from addedgrounds.formulas import FORMULA_DEPTH, SHAPE_DEPTH, atoms_of, is_formula, is_name, is_shape, parsed, text_of
from addedgrounds.values import is_number

REFERENCES = {
    "name": ("name",),
    "newest": ("place",),
    "oldest": ("place",),
    "shape": ("shape",),
    "both": ("name", "shape"),
    "goal": (),
    "toward": (),
}
# The parts of a command behind its word; the blocks, if it has any, stand behind them.
COMMANDS = {
    "intro": ("name",),
    "exact": ("reference",),
    "apply": ("reference",),
    "open": ("reference", "name", "name"),
    "use": ("reference", "reference", "name"),
    "drop": ("reference",),
    "move": ("reference",),
    "split": (),
    "left": (),
    "right": (),
    "absurd": (),
    "have": ("name", "formula"),
    "recall": ("name",),
    "first": (),
    "try": (),
    "repeat": ("turns",),
    "all": (),
}
# The line behind each block of a command.
MARKS = {"first": ("else", "end"), "try": ("end",), "repeat": ("end",), "all": ("end",)}
BOUNDS = {"place": 4, "turns": 3}
DIGITS = "1234"
PLACE_SIGNS = {"newest": "#", "oldest": "@"}
PLACE_WORDS = {"#": "newest", "@": "oldest"}
SIGN_WORDS = {"=": "goal", ">": "toward"}


def is_part(value, kind):
    """Whether any value is a part of this kind."""
    if kind == "name":
        return is_name(value)
    if kind == "formula":
        return is_formula(value)
    if kind == "shape":
        return is_shape(value)
    if kind == "reference":
        return is_reference(value)
    return is_number(value) and 1 <= value <= BOUNDS[kind]


def has_word(value):
    """Whether any value is a tuple that begins with a string."""
    return isinstance(value, tuple) and len(value) > 0 and isinstance(value[0], str)


def has_parts(parts, kinds):
    """Whether values are as many as these kinds, and each is a part of its kind."""
    if kinds is None or len(parts) != len(kinds):
        return False
    return all([is_part(part, kind) for part, kind in zip(parts, kinds)])


def is_reference(value):
    """Whether any value is a reference."""
    return has_word(value) and has_parts(value[1:], REFERENCES.get(value[0]))


def is_command(value):
    """Whether any value is a command, whatever stands in its blocks."""
    if not has_word(value) or value[0] not in COMMANDS:
        return False
    kinds = COMMANDS[value[0]]
    parts = value[1:1 + len(kinds)]
    blocks = value[1 + len(kinds):]
    if len(blocks) != len(MARKS.get(value[0], ())):
        return False
    return has_parts(parts, kinds) and all([isinstance(block, (list, tuple)) for block in blocks])


def blocks_of(command):
    """The blocks of a command."""
    return command[1 + len(COMMANDS[command[0]]):]


def head_of(command):
    """A command without its blocks."""
    return command[:1 + len(COMMANDS[command[0]])]


def part_text(part, kind):
    """The text of a part of this kind."""
    if kind in ("formula", "shape"):
        return text_of(part)
    if kind == "reference":
        return reference_text(part)
    return str(part)


def reference_text(reference):
    """The text of a reference."""
    word = reference[0]
    if word in PLACE_SIGNS:
        return PLACE_SIGNS[word] + str(reference[1])
    if word == "name":
        return reference[1]
    if word == "shape":
        return f"[{text_of(reference[1])}]"
    if word == "both":
        return f"{reference[1]}:[{text_of(reference[2])}]"
    return "=" if word == "goal" else ">"


def head_text(command):
    """The first line of the text of a command, which is all of it without blocks."""
    parts = [part_text(part, kind) for part, kind in zip(command[1:], COMMANDS[command[0]])]
    return " ".join([command[0]] + parts)


def read_part(text, kind):
    """The part of this kind with a text, or None for another text."""
    if kind == "name":
        return text if is_name(text) else None
    if kind == "formula":
        return parsed(text, FORMULA_DEPTH, False)
    if kind == "reference":
        return read_reference(text)
    return read_number(text, BOUNDS[kind])


def read_number(text, most):
    """The number from 1 on with a text, or None for another text."""
    if len(text) != 1 or text not in DIGITS[:most]:
        return None
    return int(text)


def read_reference(text):
    """The reference with a text, or None for another text."""
    if text in SIGN_WORDS:
        return (SIGN_WORDS[text],)
    if text[:1] in PLACE_WORDS:
        place = read_number(text[1:], BOUNDS["place"])
        return None if place is None else (PLACE_WORDS[text[:1]], place)
    if is_name(text):
        return ("name", text)
    return read_look(text)


def read_look(text):
    """The reference by a shape, with or without a name, with a text, or None."""
    front, bracket, rest = text.partition("[")
    shape = parsed(rest[:-1], SHAPE_DEPTH, True) if rest.endswith("]") else None
    if shape is None:
        return None
    if front == "":
        return ("shape", shape)
    if front.endswith(":") and is_name(front[:-1]):
        return ("both", front[:-1], shape)
    return None


def words_of(line):
    """The words of a line; a space within brackets does not part words."""
    words = [""]
    depth = 0
    for sign in line:
        if sign in "([":
            depth += 1
        elif sign in ")]":
            depth -= 1
        if sign == " " and depth == 0:
            words.append("")
        else:
            words[-1] += sign
    return words


def read_head(line):
    """The command with a first line, without its blocks, or None for another line."""
    words = words_of(line)
    kinds = COMMANDS.get(words[0])
    if kinds is None or len(words) != len(kinds) + 1:
        return None
    parts = [read_part(word, kind) for word, kind in zip(words[1:], kinds)]
    return None if None in parts else (words[0], *parts)


def names_in(parts, kinds):
    """The list of the names and atoms in parts of these kinds."""
    found = []
    for part, kind in zip(parts, kinds):
        if kind == "name":
            found.append(part)
        elif kind in ("formula", "shape"):
            found.extend(atoms_of(part))
        elif kind == "reference":
            found.extend(names_in(part[1:], REFERENCES[part[0]]))
    return found
