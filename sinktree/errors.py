"""The errors of the program."""


class SinkError(ValueError):
    """The base class of all errors of the program."""


class BadSchema(SinkError):
    """A value that is not a schema, or not the schema of the store."""


class BadKey(SinkError):
    """A value that is not a key."""


class BadRecord(SinkError):
    """A value that is not a record of the schema."""


class DiskError(SinkError):
    """A use of the disk that is not possible."""


class DiskCrashed(SinkError):
    """The disk has crashed."""


class DiskFull(SinkError):
    """There is no room on the disk."""


class BadProgram(SinkError):
    """A program that is not accepted, with the reason."""

    def __init__(self, reason):
        self.reason = reason


class BadText(SinkError):
    """A text that is not of its form, with the index of the fault."""

    def __init__(self, index):
        self.index = index


class BadCode(SinkError):
    """Code that is not accepted, with the index of the instruction and the reason."""

    def __init__(self, index, reason):
        self.index = index
        self.reason = reason
