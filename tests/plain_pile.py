"""The pile of point [4], followed letter by letter: slow, but plainly what the document says."""

import random


class PlainPile:
    """What happens in the first ticks of a timetable.

    For each tick: `heights`, `piles` (the bottom letter first) and `answered` (in order).
    For each letter: `arrivals`, and `answers`, which holds only the letters that were answered.
    """

    def __init__(self, rows, ticks):
        self.heights = []
        self.piles = []
        self.answered = []
        self.arrivals = []
        self.answers = {}
        pile = []
        for tick in range(ticks):
            come, answers = rows[tick % len(rows)]
            for _ in range(come):
                pile.append(len(self.arrivals))
                self.arrivals.append(tick)
            taken = []
            for _ in range(answers):
                if pile:
                    taken.append(pile.pop())
                    self.answers[taken[-1]] = tick
            self.answered.append(taken)
            self.piles.append(list(pile))
            self.heights.append(len(pile))


def small_rows():
    """All rows lists of 1 to 3 rows with at most 2 letters and at most 2 answers in a tick."""
    rows = [(come, answers) for come in range(3) for answers in range(3)]
    found = [[one] for one in rows]
    found += [[one, two] for one in rows for two in rows]
    found += [[one, two, three] for one in rows for two in rows for three in rows]
    return found


def mixed_rows(many):
    """So many rows lists of all lengths and all numbers, the same ones in each run."""
    source = random.Random(1)
    found = []
    for number in range(many):
        most_come = source.choice((1, 2, 5, 9))
        most_answers = source.choice((1, 2, 5, 9))
        length = 1 + number % 24
        found.append([(source.randint(0, most_come), source.randint(0, most_answers)) for _ in range(length)])
    return found
