"""The fewest further answers with which no letter waits too long, and where two timetables part."""

from math import lcm

from topletter.checks import LAST, check_letters, check_number
from topletter.errors import InvalidTimetable
from topletter.pile import place_of, wait_at, wait_of

MOST_FURTHER = 4


def _first_over(rows, most):
    """The first letter that waits longer, or None."""
    letter = 0
    for tick, (come, _) in enumerate(rows):
        if come > 0:
            # Of the letters of a tick, the first one lies lowest and so waits longest.
            passed = wait_at(rows, tick, 0)
            if passed is None or passed > most:
                return letter
        letter = letter + come
    return None


def _is_enough(timetable, most, ticks):
    """Whether there may be one answer more in these ticks, and no letter waits longer then."""
    try:
        more = timetable.with_answers(*ticks)
    except InvalidTimetable:
        return False
    return _first_over(more.rows, most) is None


def _list_behind(ticks, last):
    """The ascending list of as many ticks that follows in list order, or None behind the last one."""
    for place in reversed(range(len(ticks))):
        if ticks[place] < last:
            return ticks[:place] + [ticks[place] + 1] * (len(ticks) - place)
    return None


def fewest_answers(timetable, most, limit):
    """The fewest ticks in which one answer more lets no letter wait longer, or None if more than the limit."""
    check_letters(timetable)
    check_number(most, 0, LAST)
    check_number(limit, 0, MOST_FURTHER)
    # With fewer further answers than the growth, the pile still grows by letters that are never answered.
    for many in range(timetable.growth, limit + 1):
        ticks = [0] * many
        while ticks is not None:
            if _is_enough(timetable, most, ticks):
                return ticks
            ticks = _list_behind(ticks, len(timetable) - 1)
    return None


def first_late(timetable, most, *ticks):
    """The first letter that waits longer, with one answer more in these ticks of the round, or None."""
    check_letters(timetable)
    check_number(most, 0, LAST)
    more = timetable.with_answers(*ticks)
    return _first_over(more.rows, most)


def _course(rows, letter):
    """When a letter comes, and how long it waits."""
    tick, _ = place_of(rows, letter)
    return tick, wait_of(rows, letter)


def first_unlike(one, other):
    """The first letter that comes or is answered at different ticks by two timetables, or None."""
    if not one and not other:
        return None
    if not one or not other:
        return 0
    ticks = lcm(len(one), len(other))
    # After so many ticks both begin a round anew: letters that are alike until then are alike forever, and
    # if not as many have come by both, one of the letters until then comes by one of them only.
    many = max(ticks // len(one) * one.letters_per_round, ticks // len(other) * other.letters_per_round)
    for letter in range(many):
        if _course(one.rows, letter) != _course(other.rows, letter):
            return letter
    return None
