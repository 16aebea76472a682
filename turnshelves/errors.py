"""The errors of the program."""


class ShelfError(ValueError):
    """The base class of all errors of the program."""


class Refused(ShelfError):
    """A statement or a body is refused; the attribute problem tells why."""

    def __init__(self, problem):
        super().__init__(f"refused: {problem}")
        self.problem = problem


class InvalidArgument(ShelfError):
    """An argument is outside of what the document allows."""


class TransactionOpen(ShelfError):
    """The session has a transaction already."""


class NoTransaction(ShelfError):
    """The session has no transaction."""


class NoSavepoint(ShelfError):
    """The transaction has no mark of this name."""


class DiskFull(ShelfError):
    """A commit cannot be stored."""


class PowerOff(ShelfError):
    """The disk has no power."""


class DatabaseOpen(ShelfError):
    """Another database of this disk is in use."""


class DatabaseClosed(ShelfError):
    """The database is closed."""


class DamagedData(ShelfError):
    """Some bytes are not the written form that they should be."""
