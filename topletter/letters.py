"""When each letter comes and is answered, and which letters lie on the pile."""

from topletter.checks import LAST, check_letters, check_number

MOST_AT_TOP = 1000


def _place(timetable, letter):
    """The row by which a letter of the first round comes, and how many letters of that tick lie below it."""
    row = 0
    while letter >= timetable[row][0]:
        letter = letter - timetable[row][0]
        row += 1
    return row, letter


def _first_wait(timetable, letter):
    """The wait of a letter of the first round, or None."""
    row, below = _place(timetable, letter)
    # The letters to be answered, this one included; those that lie below it do not count.
    due = -below
    # A letter that outlasts a whole round has seen more letters come in it than answers, and so will it in
    # each later round: it is never answered.
    for passed in range(len(timetable)):
        come, answers = timetable[row + passed]
        due = due + come - answers
        if due <= 0:
            return passed
    return None


def _first_letters(timetable, tick, many):
    """The first letters of a tick, so many of them, the last of these first."""
    turns, row = divmod(tick, len(timetable))
    before = turns * timetable.letters_per_round + sum([come for come, _ in timetable.rows[:row]])
    return [before + k for k in reversed(range(many))]


def _topmost(timetable, tick, count):
    """The letters on the pile after a tick, the top one first, at most so many."""
    many = min(count, timetable(tick))
    found = []
    # Answers of the ticks looked at so far that took letters of earlier ticks.
    spent = 0
    while len(found) < many:
        come, answers = timetable[tick]
        left = come - answers - spent
        if left > 0:
            found = found + _first_letters(timetable, tick, left)
        spent = max(0, -left)
        tick = tick - 1
    return found[:many]


def arrival(timetable, letter):
    """The tick in which a letter comes."""
    check_letters(timetable)
    check_number(letter, 0, LAST)
    turns, first = divmod(letter, timetable.letters_per_round)
    row, _ = _place(timetable, first)
    return turns * len(timetable) + row


def answer_tick(timetable, letter):
    """The tick in which a letter is answered, or None if it never is."""
    passed = wait(timetable, letter)
    if passed is None:
        return None
    return arrival(timetable, letter) + passed


def wait(timetable, letter):
    """How many ticks after it has come a letter is answered, or None if it never is."""
    check_letters(timetable)
    check_number(letter, 0, LAST)
    return _first_wait(timetable, int(letter) % timetable.letters_per_round)


def never_answered(timetable):
    """The list of the letters of the first round that are never answered."""
    check_letters(timetable)
    return [letter for letter in range(timetable.letters_per_round) if _first_wait(timetable, letter) is None]


def longest_wait(timetable):
    """The greatest wait of any letter, or None if there are letters that are never answered."""
    check_letters(timetable)
    waits = [_first_wait(timetable, letter) for letter in range(timetable.letters_per_round)]
    if None in waits:
        return None
    return max(waits)


def answered_in(timetable, tick):
    """Yield the letters that are answered in a tick, in order."""
    check_letters(timetable)
    check_number(tick, 0, LAST)
    come, answers = timetable[tick]
    top = _first_letters(timetable, tick, come)
    if tick > 0:
        top = top + _topmost(timetable, tick - 1, answers)
    for letter in top[:answers]:
        yield letter


def top_letters(timetable, tick, count):
    """Yield the letters on the pile after a tick, the top one first, at most so many."""
    check_letters(timetable)
    check_number(tick, 0, LAST)
    check_number(count, 0, MOST_AT_TOP)
    for letter in _topmost(timetable, tick, count):
        yield letter
