"""The pile of points [4] to [8], followed letter by letter: slow, but plainly what the document says."""

import random


class PlainPile:
    """What happens in the first ticks of a timetable, in which tick after tick is played.

    In tick `more_in` one letter more comes, as the last one; it is called None. In tick `less_in` there is
    one answer less. With `from_bottom`, the bottom letter is always answered first.

    For each tick: `heights`, `piles` (the bottom letter first), `answered` (in order) and `idle`, the number
    of idle answers. For each letter: `arrivals`, `below`, the letter directly below it when it came, and
    `answers`; the last one holds only the letters that were answered, and `below` those with a letter below.
    """

    def __init__(self, rows, ticks, more_in=None, less_in=None, from_bottom=False):
        self.heights = []
        self.piles = []
        self.answered = []
        self.idle = []
        self.arrivals = []
        self.below = {}
        self.answers = {}
        self.pile = []
        for tick in range(ticks):
            come, answers = rows[tick % len(rows)]
            for _ in range(come):
                self.put(len(self.arrivals))
                self.arrivals.append(tick)
            if tick == more_in:
                self.put(None)
            if tick == less_in:
                answers -= 1
            self.answer(tick, answers, 0 if from_bottom else -1)

    def put(self, letter):
        if self.pile:
            self.below[letter] = self.pile[-1]
        self.pile.append(letter)

    def answer(self, tick, answers, end):
        taken = []
        while self.pile and len(taken) < answers:
            taken.append(self.pile.pop(end))
            self.answers[taken[-1]] = tick
        self.answered.append(taken)
        self.idle.append(answers - len(taken))
        self.piles.append(list(self.pile))
        self.heights.append(len(self.pile))

    def waits(self, letters):
        """The waits of these letters, None for those that were not answered."""
        return [self.answers[k] - self.arrivals[k] if k in self.answers else None for k in letters]


def small_rows():
    """All rows lists of 1 to 3 rows with at most 2 letters and at most 2 answers in a tick."""
    rows = [(come, answers) for come in range(3) for answers in range(3)]
    found = [[one] for one in rows]
    found += [[one, two] for one in rows for two in rows]
    found += [[one, two, three] for one in rows for two in rows for three in rows]
    return found


def mixed_rows(many):
    """So many rows lists of all lengths and all numbers, the same ones in each run."""
    source = random.Random(1)
    found = []
    for number in range(many):
        most_come = source.choice((1, 2, 5, 9))
        most_answers = source.choice((1, 2, 5, 9))
        length = 1 + number % 24
        found.append([(source.randint(0, most_come), source.randint(0, most_answers)) for _ in range(length)])
    return found


def with_letters(all_rows):
    """Those of the rows lists by which letters come."""
    return [rows for rows in all_rows if any(come for come, _ in rows)]
