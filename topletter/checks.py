"""What several parts of the package check of their arguments."""

from topletter.errors import InvalidNumber, NoLetters

# The greatest letter and the greatest tick that may be asked for.
LAST = 10 ** 18


def is_number(value, lowest, highest):
    """Whether a value is a number in these bounds; True and False are not numbers."""
    return isinstance(value, int) and not isinstance(value, bool) and lowest <= value <= highest


def check_number(value, lowest, highest):
    """Raise InvalidNumber unless a value is a number in these bounds."""
    if not is_number(value, lowest, highest):
        # The value is not shown: Python refuses to write out numbers of very many digits.
        raise InvalidNumber(f"this must be a number from {lowest} to {highest}")


def check_letters(timetable):
    """Raise NoLetters if no letters come by a timetable."""
    if not timetable:
        raise NoLetters("no letters come by this timetable")
