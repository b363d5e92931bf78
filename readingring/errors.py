"""All exceptions of the package."""


class ReadingError(ValueError):
    """The base class of all exceptions of the package."""


class InvalidRing(ReadingError):
    """The days or the books at first do not make a ring."""

    def __init__(self, part, index):
        ReadingError.__init__(self, f"no ring can have these {part} (index {index})")
        self.part = part
        self.index = index


class UnknownReader(ReadingError):
    """The ring has no such reader."""


class UnknownBook(ReadingError):
    """There is no such book."""


class InvalidNumber(ReadingError):
    """A value is not a number, or is out of the limits."""


class SameBook(ReadingError):
    """Two different books are needed, and the same one was given twice."""


class OtherRing(ReadingError):
    """Two rings have different numbers of readers."""


class InvalidChain(ReadingError):
    """A list of readers or of readings is not a chain."""

    def __init__(self, index):
        ReadingError.__init__(self, f"the list is not a chain (index {index})")
        self.index = index


class BeingRead(ReadingError):
    """A book that is being read cannot be taken away."""

    def __init__(self, book):
        ReadingError.__init__(self, f"book {book} is being read")
        self.book = book


class AlreadyOpen(ReadingError):
    """A block of a live ring was entered within another one."""


class InvalidOperation(ReadingError):
    """A value is not an operation of a live ring."""

    def __init__(self, index):
        ReadingError.__init__(self, f"not an operation (index {index})")
        self.index = index


class DiaryError(ReadingError):
    """An entry does not belong to the diary of the ring."""

    def __init__(self, entry):
        ReadingError.__init__(self, f"the diary is wrong at entry {entry}")
        self.entry = entry


class Contradiction(ReadingError):
    """No number of days agrees with all observations."""


class NotationError(ReadingError):
    """A text does not describe a ring."""

    def __init__(self, row, word):
        ReadingError.__init__(self, f"the text is wrong in row {row}, word {word}")
        self.row = row
        self.word = word


class InvalidCount(ReadingError):
    """A value is not a list of integers from 0 to 255."""


class DecodeError(ReadingError):
    """Bytes do not describe a ring."""

    def __init__(self, offset):
        ReadingError.__init__(self, f"the bytes are wrong at offset {offset}")
        self.offset = offset
