"""The errors of the package."""


class LineError(ValueError):
    """The base class of all errors of the package."""


class InvalidLine(LineError):
    """People who cannot be a line, with the index of the first wrong one."""

    def __init__(self, *, index):
        super().__init__(f"no valid line, index {index}")
        self.index = index


class UnknownPerson(LineError):
    """A name that nobody in the line has."""

    def __init__(self, *, name):
        super().__init__(f"nobody has the name {name!r}")
        self.name = name


class InvalidNumber(LineError):
    """A number that is out of its range."""


class InvalidChain(LineError):
    """No chain of waits, with the index of the first wrong hand-over."""

    def __init__(self, *, index):
        super().__init__(f"no chain of waits, index {index}")
        self.index = index


class TooManyPeople(LineError):
    """A line with too many people for what is asked."""


class Contradiction(LineError):
    """An observation that no possible pace allows."""


class InvalidWorker(LineError):
    """A worker with a parameter that is invalid."""

    def __init__(self, *, part):
        super().__init__(f"no valid worker, part {part}")
        self.part = part


class InvalidFire(LineError):
    """A fire with a number that is out of its range."""

    def __init__(self, *, part):
        super().__init__(f"no valid fire, part {part}")
        self.part = part


class InvalidOperation(LineError):
    """Something that is no operation of a live line, with its index."""

    def __init__(self, *, index):
        super().__init__(f"no valid operation, index {index}")
        self.index = index


class InvalidText(LineError):
    """A text that is not that of a line, with the first wrong row and word."""

    def __init__(self, *, row, word):
        super().__init__(f"no text of a line, row {row}, word {word}")
        self.row = row
        self.word = word


class InvalidSchedule(LineError):
    """A text that is not a schedule, with the first wrong row."""

    def __init__(self, *, row):
        super().__init__(f"no schedule, row {row}")
        self.row = row


class DecodeError(LineError):
    """Bytes that are not those of a line, with the offset of the first wrong one."""

    def __init__(self, *, offset):
        super().__init__(f"no bytes of a line, offset {offset}")
        self.offset = offset
