"""The pile that the rows of a timetable make, at any tick and for any letter: nothing is checked here."""


def row_at(rows, tick):
    """The row that holds for a tick."""
    return rows[int(tick) % len(rows)]


def letters_in(rows):
    """How many letters come by these rows."""
    return sum([come for come, _ in rows])


def growth_of(rows):
    """By how many letters the pile grows in each round, in the long run."""
    return max(0, sum([come - answers for come, answers in rows]))


def _height_from(height, rows):
    """The number of letters on a pile of this height after the ticks of these rows."""
    for come, answers in rows:
        height = max(0, height + come - answers)
    return height


def height_before(rows, tick):
    """The number of letters on the pile before a tick."""
    turns, row = divmod(tick, len(rows))
    height = 0
    if turns > 0:
        # A round adds its letters less its answers to the pile, but never ends below the height at which
        # the first round ended: the pile began that one empty. So each later round adds just the growth.
        height = _height_from(0, rows) + (turns - 1) * growth_of(rows)
    return _height_from(height, rows[:row])


def place_in(counts, item):
    """The tick of an item, if so many of them stand in each tick, and its place in that tick."""
    turns, place = divmod(item, sum(counts))
    row = 0
    while place >= counts[row]:
        place = place - counts[row]
        row += 1
    return turns * len(counts) + row, place


def place_of(rows, letter):
    """The tick in which a letter comes, and how many letters of that tick lie below it."""
    return place_in([come for come, _ in rows], letter)


def wait_at(rows, tick, below):
    """The wait of the letter that comes in a tick above so many others of that tick, or None."""
    # The letters to be answered, this one included; those that lie below it do not count.
    due = -below
    # A letter that outlasts a whole round has seen more letters come in it than answers, and so will it in
    # each later round: it is never answered.
    for passed in range(len(rows)):
        come, answers = row_at(rows, tick + passed)
        due = due + come - answers
        if due <= 0:
            return passed
    return None


def wait_of(rows, letter):
    """The wait of a letter, or None."""
    tick, below = place_of(rows, letter)
    return wait_at(rows, tick, below)


def answer_of(rows, letter):
    """The tick in which a letter is answered, or None."""
    tick, below = place_of(rows, letter)
    passed = wait_at(rows, tick, below)
    if passed is None:
        return None
    return tick + passed


def _first_letters(rows, tick, many):
    """The first letters of a tick, so many of them, the last of these first."""
    turns, row = divmod(tick, len(rows))
    before = turns * letters_in(rows) + letters_in(rows[:row])
    return [before + k for k in reversed(range(many))]


def pile_at(rows, tick, count):
    """The letters on the pile in a tick, ahead of its answers: the top one first, at most so many."""
    come, _ = row_at(rows, tick)
    many = min(count, height_before(rows, tick) + come)
    found = _first_letters(rows, tick, come)
    # Answers of the ticks looked at so far that took letters of earlier ticks.
    spent = 0
    while len(found) < many:
        tick = tick - 1
        come, answers = row_at(rows, tick)
        left = come - answers - spent
        if left > 0:
            found = found + _first_letters(rows, tick, left)
        spent = max(0, -left)
    return found[:many]


def answered_at(rows, tick):
    """The letters that are answered in a tick, in order."""
    _, answers = row_at(rows, tick)
    return pile_at(rows, tick, answers)
