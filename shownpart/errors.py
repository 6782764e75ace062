"""The errors of the package."""


class PartError(ValueError):
    """A value that is not what it must be; it takes a message."""


class InvalidName(PartError):
    """No name, or no names."""


class InvalidTerm(PartError):
    """No term, or none of those that are asked for."""


class InvalidFact(PartError):
    """No fact, or none of those that are asked for."""


class InvalidBook(PartError):
    """No book, or none of those that are asked for."""


class InvalidWorld(PartError):
    """No world, or none of those that are asked for."""


class InvalidOperation(PartError):
    """Values that are right alone, but not together."""


class InvalidCode(PartError):
    """No piece of code, or no part of one."""


class InvalidEdit(PartError):
    """No edit, or none that is possible."""


class ParseError(PartError):
    """No text of what is to be read."""


class InvalidCommand(PartError):
    """No command."""


class InvalidNumber(IndexError):
    """A number that is none of those that are asked for."""

    def __init__(self, value):
        self.value = value


class UnknownName(KeyError):
    """A name that is not there."""

    def __init__(self, name):
        self.name = name


class Unfit(RuntimeError):
    """Books that do not fit, with a paper that shows it."""

    def __init__(self, paper):
        self.paper = paper


class TooMany(OverflowError):
    """More than a limit."""

    def __init__(self, limit):
        self.limit = limit


class NothingToUndo(LookupError):
    """Fewer steps than are to be undone or done again."""

    def __init__(self, many):
        self.many = many
