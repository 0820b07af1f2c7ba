"""The errors that the package raises."""


class LogError(ValueError):
    """What all errors of the package have in common."""


class InvalidLog(LogError):
    """A value that is not a log."""


class UnknownId(LogError):
    """A value that is not an id, or not the id of an entry of the needed kind."""

    def __init__(self, entry_id):
        self.entry_id = entry_id


class UnknownCell(LogError):
    """A value that is not a cell, or not a cell of the entry in question."""

    def __init__(self, cell):
        self.cell = cell


class SealedWrite(LogError):
    """The id of a write that is sealed and cannot be retracted."""

    def __init__(self, entry_id):
        self.entry_id = entry_id


class DuplicateId(LogError):
    """An id that is already used."""

    def __init__(self, entry_id):
        self.entry_id = entry_id


class InvalidBudget(LogError):
    """A value that is not a budget, or a budget that does not suffice."""


class NotCompact(LogError):
    """A log that compaction would change."""


class InvalidRules(LogError):
    """Rules that do not fit the write with this id."""

    def __init__(self, entry_id):
        self.entry_id = entry_id


class InvalidCommand(LogError):
    """A value, at this position, that is not a command."""

    def __init__(self, position):
        self.position = position


class InvalidRecord(LogError):
    """A record whose row at this position is invalid."""

    def __init__(self, position):
        self.position = position


class ParseError(LogError):
    """A text whose line with this number is invalid."""

    def __init__(self, line):
        self.line = line
