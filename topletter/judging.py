"""Logs of what is answered, and observers of a pile of which the first row is unknown."""

from topletter.checks import check_number, is_number
from topletter.errors import Contradiction
from topletter.pile import answered_at, height_before

LAST_TICK = 200
MOST_LYING = 1809


def _are_letters(values, letters):
    """Whether values are just these letters, in this order; True and False are no letters."""
    if len(values) != len(letters):
        return False
    return all([is_number(value, letter, letter) for value, letter in zip(values, letters)])


def first_log_error(timetable, log):
    """The first tick for which a log does not have the list of the answered letters, or None."""
    if not isinstance(log, list):
        return 0
    for tick, entry in enumerate(log):
        if not isinstance(entry, list) or not _are_letters(entry, answered_at(timetable.rows, tick)):
            return tick
    return None


class PileObserver:
    """What observations tell of the row with which a pile began."""

    def __init__(self, timetable):
        self._rows = timetable.rows
        self._left = list(range(len(timetable)))
        self._seen = []

    @classmethod
    def from_log(cls, timetable, observations):
        """The observer after a list of observations."""
        observer = cls(timetable)
        for name, *given in observations:
            if name == "see_height":
                observer.see_height(*given)
            else:
                observer.see_answered(*given)
        return observer

    @property
    def first_rows(self):
        """The list of the rows that remain possible as the first one."""
        return list(self._left)

    @property
    def observations(self):
        """The list of the observations."""
        return list(self._seen)

    def see_height(self, tick, height):
        """Record how many letters are on the pile after a tick, and return how many rows remain possible."""
        check_number(tick, 0, LAST_TICK)
        check_number(height, 0, MOST_LYING)
        left = [first for first in self._left if self._height(first, tick) == height]
        return self._accept(("see_height", tick, height), left)

    def see_answered(self, tick, *letters):
        """Record which letters are answered in a tick, in order, and return how many rows remain possible."""
        check_number(tick, 0, LAST_TICK)
        left = [first for first in self._left if _are_letters(letters, answered_at(self._begun(first), tick))]
        return self._accept(("see_answered", tick, *letters), left)

    def possible_heights(self, tick):
        """The ascending list of the numbers of letters that can be on the pile after a tick."""
        check_number(tick, 0, LAST_TICK)
        return sorted({self._height(first, tick) for first in self._left})

    def best_tick(self, limit):
        """The first tick up to a limit for which `see_height` leaves fewest rows in the worst case."""
        check_number(limit, 0, LAST_TICK)
        worst = [self._most_alike(tick) for tick in range(limit + 1)]
        return worst.index(min(worst))

    def _begun(self, first):
        """The rows in their order from this first one on."""
        return self._rows[first:] + self._rows[:first]

    def _height(self, first, tick):
        return height_before(self._begun(first), tick + 1)

    def _most_alike(self, tick):
        """How many rows `see_height` leaves in the worst case."""
        heights = [self._height(first, tick) for first in self._left]
        return max([heights.count(height) for height in heights])

    def _accept(self, observation, left):
        if not left:
            raise Contradiction("no row would remain possible as the first one")
        self._left = left
        self._seen.append(observation)
        return len(left)
