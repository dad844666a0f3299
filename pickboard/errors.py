"""The refusals of the program, each straight under BoardError."""


class BoardError(ValueError):
    """What all refusals have in common."""


class NotStocked(BoardError):
    """Some feeder has fewer parts than there are parts of its kind."""


class TooMany(BoardError):
    """The job has more parts than can be reckoned with here."""


class Short(BoardError):
    """All feeders of one kind together have too few parts."""

    def __init__(self, words, kind):
        BoardError.__init__(self, words)
        self.kind = kind


class BadRow(BoardError):
    """A row of a text is not written as it should be."""

    def __init__(self, words, row):
        BoardError.__init__(self, words)
        self.row = row


class NoJob(BoardError):
    """The rows of a text are well written, but tell no job."""
