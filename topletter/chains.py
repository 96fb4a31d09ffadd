"""What one letter more or one answer less changes, letter by letter."""

from topletter.checks import LAST, check_letters, check_number
from topletter.errors import NoAnswer
from topletter.pile import answer_of, height_before, letters_in, pile_at, row_at


def _is_idle(rows, tick):
    """Whether an answer of a tick is idle."""
    come, answers = row_at(rows, tick)
    return height_before(rows, tick) + come < answers


def _first_idle(rows, tick):
    """The first tick, from this one on, in which an answer is idle, or None."""
    # The pile is never lower than a round earlier: after a round without idle answers, none are idle.
    for later in range(tick, tick + len(rows)):
        if _is_idle(rows, later):
            return later
    return None


def _lying_in(rows, tick):
    """The letters on the pile in a tick, ahead of its answers, the top one first, as far as a chain may go."""
    # Of more letters than come in a round, the last one has outlasted a round: it is never answered.
    return pile_at(rows, tick, letters_in(rows) + 1)


def _chain(rows, letter, former, tick, below):
    """The chain of a letter with this former answer, to be answered from a tick on, and the letters below it."""
    links = []
    for lower in below:
        later = answer_of(rows, lower)
        links.append((letter, former, later))
        if later is None:
            return links
        letter = lower
        former = tick = later
    links.append((letter, former, _first_idle(rows, tick)))
    return links


def one_more(timetable, tick):
    """Yield what changes if one letter more comes as the last one of a tick."""
    check_letters(timetable)
    check_number(tick, 0, LAST)
    rows = timetable.rows
    lying = _lying_in(rows, tick)
    for link in _chain(rows, None, None, tick, lying):
        yield link


def one_less(timetable, tick):
    """Yield what changes if there is one answer less in a tick."""
    check_letters(timetable)
    check_number(tick, 0, LAST)
    rows = timetable.rows
    _, answers = row_at(rows, tick)
    if answers == 0:
        raise NoAnswer("there is no answer in this tick")
    if _is_idle(rows, tick):
        return
    lying = _lying_in(rows, tick)
    # No answer of this tick is idle, so the first idle one from this tick on comes after it.
    for link in _chain(rows, lying[answers - 1], tick, tick, lying[answers:]):
        yield link
