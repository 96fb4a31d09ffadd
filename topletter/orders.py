"""The pile if the bottom letter is answered first, and what both orders have in common."""

from topletter.checks import LAST, check_letters, check_number
from topletter.pile import height_before, place_in, place_of


def _bottom_wait(rows, letter):
    """The wait of a letter if the bottom one is answered first, or None if there are no answers."""
    tick, below = place_of(rows, letter)
    row = int(tick) % len(rows)
    answers_from = [answers for _, answers in rows[row:] + rows[:row]]
    if sum(answers_from) == 0:
        return None
    # All letters below it are answered ahead of it, and no answer is idle until then.
    passed, _ = place_in(answers_from, height_before(rows, tick) + below)
    return passed


def bottom_answer(timetable, letter):
    """The tick in which a letter is answered if the bottom one is answered first, or None if it never is."""
    check_letters(timetable)
    check_number(letter, 0, LAST)
    passed = _bottom_wait(timetable.rows, letter)
    if passed is None:
        return None
    tick, _ = place_of(timetable.rows, letter)
    return tick + passed


def longest_bottom_wait(timetable):
    """The greatest wait of any letter if the bottom one is answered first, or None if there is none."""
    check_letters(timetable)
    if timetable.growth > 0:
        # More letters lie below those of each further round: they wait longer and longer, or forever.
        return None
    many = timetable.letters_per_round
    # The pile is as high in all rounds but the first one, in which it is nowhere higher.
    return max([_bottom_wait(timetable.rows, letter) for letter in range(many, 2 * many)])


def total_waiting(timetable, count):
    """The sum of the numbers of letters on the pile after each of the first so many ticks."""
    check_number(count, 0, LAST)
    length = len(timetable)
    total = sum([timetable(tick) for tick in range(min(count, length))])
    for tick in range(length, 2 * length):
        # So often this row holds behind the first round; each time, the pile is higher by the growth.
        turns = max(0, count - tick + length - 1) // length
        total = total + turns * timetable(tick) + turns * (turns - 1) // 2 * timetable.growth
    return total
