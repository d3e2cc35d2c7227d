"""The errors of the package: each has its values and its name, as `code`."""

from addedgrounds.values import copied


class GroundError(ValueError):
    """The base class of the errors about a wrong value or a wrong step."""


class Missing(LookupError):
    """The base class of the errors about something that is not there."""


class InvalidName(GroundError):
    """A value is no name, or none that may be used."""

    def __init__(self, value):
        self.value = copied(value)
        self.code = "InvalidName"


class InvalidNumber(GroundError):
    """A value is no number, or none within the bounds."""

    def __init__(self, value):
        self.value = copied(value)
        self.code = "InvalidNumber"


class InvalidFormula(GroundError):
    """A value is no formula, or no text of one."""

    def __init__(self, value):
        self.value = copied(value)
        self.code = "InvalidFormula"


class InvalidShape(GroundError):
    """A value is no text of a shape."""

    def __init__(self, value):
        self.value = copied(value)
        self.code = "InvalidShape"


class InvalidRow(GroundError):
    """The item with this index is no row."""

    def __init__(self, at):
        self.at = copied(at)
        self.code = "InvalidRow"


class InvalidCommand(GroundError):
    """The item with this path is no command."""

    def __init__(self, path):
        self.path = copied(path)
        self.code = "InvalidCommand"


class InvalidText(GroundError):
    """The line with this index is wrong."""

    def __init__(self, line):
        self.line = copied(line)
        self.code = "InvalidText"


class InvalidDeed(GroundError):
    """The item with this index is no deed."""

    def __init__(self, at):
        self.at = copied(at)
        self.code = "InvalidDeed"


class InvalidPage(GroundError):
    """The line of a page with this index is wrong."""

    def __init__(self, line):
        self.line = copied(line)
        self.code = "InvalidPage"


class TooMany(GroundError):
    """There are more items than the most that may be."""

    def __init__(self, most):
        self.most = copied(most)
        self.code = "TooMany"


class TooLarge(GroundError):
    """A formula has more parts than the most that may be."""

    def __init__(self, most):
        self.most = copied(most)
        self.code = "TooLarge"


class Circular(GroundError):
    """An entry would rest on itself."""

    def __init__(self, name):
        self.name = copied(name)
        self.code = "Circular"


class NameInUse(GroundError):
    """An entry recalls what would be dropped."""

    def __init__(self, user):
        self.user = copied(user)
        self.code = "NameInUse"


class Full(GroundError):
    """There is no place for another entry."""

    def __init__(self, most):
        self.most = copied(most)
        self.code = "Full"


class Refused(GroundError):
    """The command with this path refused for a reason."""

    def __init__(self, path, reason):
        self.path = copied(path)
        self.reason = copied(reason)
        self.code = "Refused"


class UnknownName(Missing):
    """A value is no name of an entry."""

    def __init__(self, value):
        self.value = copied(value)
        self.code = "UnknownName"


class NothingLeft(IndexError):
    """There is no step to undo or to redo."""

    def __init__(self):
        self.code = "NothingLeft"
