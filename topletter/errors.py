"""The exceptions of the package."""


class PileError(ValueError):
    """The base class of all exceptions of the package."""


class InvalidTimetable(PileError):
    """What was given makes no timetable; `index` is the first row that is wrong."""

    def __init__(self, index):
        super().__init__(f"row {index} makes no timetable")
        self.index = index


class InvalidNumber(PileError):
    """What was given is not a number, or not one that is allowed here."""


class NoLetters(PileError):
    """No letters come by the timetable."""


class NoAnswer(PileError):
    """There is no answer in the tick."""


class UnknownLetter(PileError):
    """There is no such letter; `letter` is what was given."""

    def __init__(self, letter):
        # The letter can be anything, and not everything can be shown (a number of very many digits).
        super().__init__("there is no such letter")
        self.letter = letter


class AlreadyOpen(PileError):
    """A block of the live pile is entered within another one."""


class InvalidOperation(PileError):
    """What was given is not an operation; `index` tells the first such argument."""

    def __init__(self, index):
        super().__init__(f"argument {index} is not an operation")
        self.index = index


class Contradiction(PileError):
    """No first row would remain possible."""


class NotationError(PileError):
    """A text does not have the form of a timetable, first at `word` of `row`."""

    def __init__(self, row, word):
        super().__init__(f"row {row} is wrong at word {word}")
        self.row = row
        self.word = word


class InvalidCount(PileError):
    """What was given is not a list of integers from 0 to 255."""


class DecodeError(PileError):
    """Bytes are not those of a timetable, first at `offset`."""

    def __init__(self, offset):
        super().__init__(f"the bytes are wrong at offset {offset}")
        self.offset = offset
