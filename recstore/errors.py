"""The errors of the package (c10)."""


class RecordError(ValueError):
    """The base of all other errors of the package."""


class BadSchema(RecordError):
    """A schema is refused at a token, counted from 1, or as a whole (token 0)."""

    def __init__(self, token, reason):
        self.token = token
        self.reason = reason


class BadField(RecordError):
    """A path, or what is to be done with the field that it leads to, is refused."""

    def __init__(self, reason):
        self.reason = reason


class OutOfRange(RecordError):
    """An integer is less or greater than its place can hold."""


class Full(RecordError):
    """There is no room for what a call has to store."""


class Leased(RecordError):
    """A lease that is held stands against a call."""


class BadImage(RecordError):
    """An image is not right; the offset is that of the fault in the image."""

    def __init__(self, offset, reason):
        self.offset = offset
        self.reason = reason


class BadJournal(RecordError):
    """A journal is not right; the place is that of its first wrong entry."""

    def __init__(self, place):
        self.place = place


class BadArgument(RecordError):
    """An argument of a call is refused that is no path and no value of a field."""

    def __init__(self, reason):
        self.reason = reason
