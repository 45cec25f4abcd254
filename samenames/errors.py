"""The errors of the program."""


class ServerError(ValueError):
    """The base class of all errors of the program."""


class InvalidEdit(ServerError):
    """An edit does not fit its text, or a program cannot be held."""


class UnknownFile(ServerError):
    """A module is not there."""


class FileExists(ServerError):
    """A module is there already."""


class NothingToUndo(ServerError):
    """No step can be taken back or done again."""


class Cancelled(ServerError):
    """A computation was cut off."""


class UnknownKey(ServerError):
    """A key is no input."""


class CyclicKey(ServerError):
    """A key would be needed to bring itself up to date."""


class SyntaxProblem(ServerError):
    """Reading a text fails at the place (start, end)."""

    def __init__(self, start, end):
        self.start = start
        self.end = end


class Refused(ServerError):
    """A change is refused; the code tells why, the file and the start tell where."""

    def __init__(self, code, file, start):
        self.code = code
        self.file = file
        self.start = start
