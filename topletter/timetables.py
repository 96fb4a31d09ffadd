"""Timetables: how many letters come in each tick, and how many answers there are."""

from math import lcm

from topletter.checks import LAST, check_number, is_number
from topletter.errors import InvalidTimetable
from topletter.pile import growth_of, height_before, letters_in

MOST_ROWS = 24
MOST_IN_ROW = 9
FIGURES = "0123456789"


def _is_row(value):
    if not isinstance(value, tuple) or len(value) != 2:
        return False
    return is_number(value[0], 0, MOST_IN_ROW) and is_number(value[1], 0, MOST_IN_ROW)


def _first_wrong(rows):
    """The index for InvalidTimetable, or None if the rows make a timetable."""
    if not rows:
        return 0
    for index, row in enumerate(rows):
        if index == MOST_ROWS or not _is_row(row):
            return index
    return None


def _figures(text):
    """The figures of a text as numbers, with None for any other character."""
    if not isinstance(text, str):
        return []
    return [int(mark) if mark in FIGURES else None for mark in text]


def _simple_rows(letters, answers):
    """The rows of two texts of figures."""
    come = _figures(letters)
    answered = _figures(answers)
    rows = list(zip(come, answered))
    if len(come) != len(answered):
        # A figure without a counterpart makes no row, and so no timetable.
        rows.append(None)
    return rows


def _added_rows(one, other):
    """The rows of the sum of two timetables, allowed or not."""
    ticks = range(lcm(len(one), len(other)))
    return [(one[tick][0] + other[tick][0], one[tick][1] + other[tick][1]) for tick in ticks]


class Timetable:
    """A timetable of 1 to 24 rows that repeats, and the pile that it makes."""

    def __init__(self, *rows):
        wrong = _first_wrong(rows)
        if wrong is not None:
            raise InvalidTimetable(wrong)
        self._rows = tuple([(come, answers) for come, answers in rows])

    @classmethod
    def simple(cls, letters, answers):
        """The timetable of two strings, with a figure for each tick: the letters, and the answers."""
        rows = _simple_rows(letters, answers)
        return cls(*rows)

    @property
    def rows(self):
        """The tuple of all rows."""
        return self._rows

    @property
    def letters_per_round(self):
        """How many letters come in a round."""
        return letters_in(self._rows)

    @property
    def growth(self):
        """By how many letters the pile grows in each round, in the long run."""
        return growth_of(self._rows)

    def __len__(self):
        return len(self._rows)

    def __getitem__(self, at):
        check_number(at, 0, LAST)
        return self._rows[int(at) % len(self._rows)]

    def __iter__(self):
        # Without this, Python would walk through the endless ticks by their indexes.
        raise TypeError("timetables are not walked")

    def __bool__(self):
        return any([come > 0 for come, _ in self._rows])

    def __add__(self, other):
        if not isinstance(other, Timetable):
            return NotImplemented
        rows = _added_rows(self, other)
        return Timetable(*rows)

    def __eq__(self, other):
        if not isinstance(other, Timetable):
            return False
        # Both are repeated to the same length, as one may tell the rows of the other several times.
        return self._rows * len(other.rows) == other.rows * len(self._rows)

    def __call__(self, tick):
        """The number of letters on the pile after a tick."""
        check_number(tick, 0, LAST)
        return height_before(self._rows, tick + 1)

    def with_answers(self, *ticks):
        """The timetable with one answer more for each of these ticks of the round."""
        for tick in ticks:
            check_number(tick, 0, len(self._rows) - 1)
        rows = [(come, answers + ticks.count(row)) for row, (come, answers) in enumerate(self._rows)]
        return Timetable(*rows)
