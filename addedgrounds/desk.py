"""Desks: they answer lines about a shelf."""

from addedgrounds.errors import GroundError, Missing, NothingLeft
from addedgrounds.formulas import text_of
from addedgrounds.scripts import Script
from addedgrounds.sessions import Session

UNKNOWN = "unknown"
DONE = "done"
COMMAND_WORD = "do "


class Desk:
    """Answers lines about a shelf, which others may use, too."""

    def __init__(self, shelf):
        self.board = shelf
        self.session = None
        self.entered = None
        self.said = []

    @property
    def shelf(self):
        """The shelf."""
        return self.board

    def say(self, line):
        """The answer to a line."""
        try:
            answer = self.answer(line)
        except (GroundError, Missing, NothingLeft) as wrong:
            answer = f"error {wrong.code}"
        self.said.append((line, answer))
        return answer

    def __call__(self, line):
        return self.say(line)

    def log(self):
        """The list of the pairs (line, answer)."""
        return list(self.said)

    def __len__(self):
        return len(self.said)

    def __repr__(self):
        return f"Desk({len(self.said)} lines)"

    def answer(self, line):
        """The answer to a line; raises the errors of what the line asks for."""
        if line.startswith(COMMAND_WORD):
            return self.do_command(line[len(COMMAND_WORD):])
        words = line.split(" ")
        if len(words) == 1:
            return self.answer_word(words[0])
        if len(words) == 2 and words[1] != "":
            return self.answer_name(words[0], words[1])
        return UNKNOWN

    def do_command(self, text):
        """Does a command without blocks in the session."""
        if self.session is None or text == "":
            return UNKNOWN
        self.session.tell(text)
        return self.opened()

    def answer_word(self, word):
        """The answer to a line of one word."""
        if word == "names":
            return listed(self.board.names())
        if word == "undo":
            self.board.undo()
            return DONE
        if word == "redo":
            self.board.redo()
            return DONE
        return UNKNOWN if self.session is None else self.answer_in_session(word)

    def answer_in_session(self, word):
        """The answer to a line of one word in a session."""
        if word == "back":
            self.session.undo()
            return self.opened()
        if word == "goals":
            return self.opened()
        if word == "save":
            self.board.apply(("script", self.entered, Script(self.session.commands())))
            return DONE
        return UNKNOWN

    def answer_name(self, word, name):
        """The answer to a line of a word and a name."""
        if word == "drop":
            self.board.apply(("drop", name))
            return DONE
        if word == "verdict":
            return self.board.verdict(name).told()
        if word == "sound":
            return "yes" if self.board.is_sound(name) else "no"
        if word == "rests":
            return listed(self.board.rests(name))
        if word == "states":
            return text_of(self.board.statement(name))
        if word == "begin":
            return self.begin(name)
        return UNKNOWN

    def begin(self, name):
        """Begins a session with an entry."""
        claim = self.board.claim_of(name)
        facts = {other: self.board.statement(other) for other in self.board.names() if other != name}
        self.session = Session(claim.context, claim.goal, facts=facts)
        self.entered = name
        return self.opened()

    def opened(self):
        """The answer that tells the number of open goals."""
        return f"open {self.session.many}"


def listed(names):
    """Names with spaces between."""
    return " ".join(names) if names else "none"
