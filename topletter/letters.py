"""When each letter comes and is answered, and which letters lie on the pile."""

from topletter.checks import LAST, check_letters, check_number
from topletter.pile import answer_of, answered_at, pile_at, place_of, wait_of

MOST_AT_TOP = 1000


def arrival(timetable, letter):
    """The tick in which a letter comes."""
    check_letters(timetable)
    check_number(letter, 0, LAST)
    tick, _ = place_of(timetable.rows, letter)
    return tick


def answer_tick(timetable, letter):
    """The tick in which a letter is answered, or None if it never is."""
    check_letters(timetable)
    check_number(letter, 0, LAST)
    return answer_of(timetable.rows, letter)


def wait(timetable, letter):
    """How many ticks after it has come a letter is answered, or None if it never is."""
    check_letters(timetable)
    check_number(letter, 0, LAST)
    return wait_of(timetable.rows, letter)


def never_answered(timetable):
    """The list of the letters of the first round that are never answered."""
    check_letters(timetable)
    rows = timetable.rows
    return [letter for letter in range(timetable.letters_per_round) if wait_of(rows, letter) is None]


def longest_wait(timetable):
    """The greatest wait of any letter, or None if there are letters that are never answered."""
    check_letters(timetable)
    waits = [wait_of(timetable.rows, letter) for letter in range(timetable.letters_per_round)]
    if None in waits:
        return None
    return max(waits)


def answered_in(timetable, tick):
    """Yield the letters that are answered in a tick, in order."""
    check_letters(timetable)
    check_number(tick, 0, LAST)
    for letter in answered_at(timetable.rows, tick):
        yield letter


def top_letters(timetable, tick, count):
    """Yield the letters on the pile after a tick, the top one first, at most so many."""
    check_letters(timetable)
    check_number(tick, 0, LAST)
    check_number(count, 0, MOST_AT_TOP)
    _, answers = timetable[tick]
    pile = pile_at(timetable.rows, tick, answers + count)
    for letter in pile[answers:]:
        yield letter
