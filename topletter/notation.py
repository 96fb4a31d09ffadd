"""Timetables as texts, and charts of what lies on the pile."""

from topletter.checks import LAST, check_number
from topletter.errors import NotationError
from topletter.timetables import FIGURES, Timetable

MOST_AFTER = 99
MOST_MARKS = 20


def format_timetable(timetable):
    """The text of a timetable."""
    return "\n".join([f"row {come} {answers}" for come, answers in timetable.rows])


def _is_number_word(word):
    """Whether a word has one or two figures, and no leading zero."""
    if word == "" or len(word) > 2 or not all([mark in FIGURES for mark in word]):
        return False
    return len(word) == 1 or word[0] != "0"


def _wrong_word(words):
    """The first word of a row that is wrong, missing or superfluous, or None."""
    if words[0] != "row":
        return 0
    for at in (1, 2):
        if at >= len(words) or not _is_number_word(words[at]):
            return at
    return 3 if len(words) > 3 else None


def parse_timetable(text):
    """The timetable of a text."""
    if not isinstance(text, str):
        raise NotationError(0, 0)
    rows = []
    for at, line in enumerate(text.split("\n")):
        words = line.split(" ")
        wrong = _wrong_word(words)
        if wrong is not None:
            raise NotationError(at, wrong)
        rows.append((int(words[1]), int(words[2])))
    return Timetable(*rows)


def _chart_row(tick, height):
    marks = "*" * min(height, MOST_MARKS)
    return f"{tick:>19} {height:>20,} {marks:.<20}"


def chart(timetable, first, last):
    """A text with a row for each tick from the first to the last one: how many letters are on the pile after it."""
    check_number(first, 0, LAST)
    check_number(last, first, min(first + MOST_AFTER, LAST))
    return "\n".join([_chart_row(tick, timetable(tick)) for tick in range(first, last + 1)])
