"""The live pile of points [11] and [12]: all of it is played anew from the beginning for each question."""

import random

NAMES = ("pass_ticks", "add", "answer", "take")


class Refused(Exception):
    """An operation is refused; `letter` tells which letter is unknown, `number` whether a number is wrong."""

    def __init__(self, number, letter=None):
        self.number = number
        self.letter = letter


class Played:
    """What a list of operations leads to, if none of them is refused."""

    def __init__(self, rows, operations):
        self.rows = rows
        self.tick = 0
        self.come = 0
        self.pile = []
        self.answered = []
        self.results = [self.execute(name, given) for name, given in operations]

    def put(self, many):
        found = []
        for _ in range(many):
            found.append(self.come)
            self.pile.append(self.come)
            self.come += 1
        return found

    def answer(self, many):
        found = []
        for _ in range(many):
            if self.pile:
                found.append(self.pile.pop())
                self.answered.append((found[-1], self.tick))
        return found

    def execute(self, name, given):
        if name == "take":
            if type(given) is not int or given not in self.pile:
                raise Refused(False, given)
            above = [letter for letter in self.pile if letter > given]
            self.pile = [letter for letter in self.pile if letter != given]
            return len(above)
        lowest, highest = (0, 200) if name == "pass_ticks" else (1, 9)
        if type(given) is not int or not lowest <= given <= highest:
            raise Refused(True)
        if name == "add":
            return self.put(given)
        if name == "answer":
            return self.answer(given)
        found = []
        for _ in range(given):
            come, answers = self.rows[self.tick % len(self.rows)]
            self.put(come)
            found += self.answer(answers)
            self.tick += 1
        return found

    def answer_of(self, letter):
        for other, tick in self.answered:
            if other == letter:
                return tick
        return None


class PlainLive:
    """A live pile that is nothing but lists of its operations: those in effect, and those undone."""

    def __init__(self, rows):
        self.rows = rows
        self.done = []
        self.undone = []

    def played(self):
        return Played(self.rows, self.done)

    def apply(self, operations):
        """The results of operations; Refused comes ahead of any change."""
        played = Played(self.rows, self.done + operations)
        many = len(self.done)
        if operations:
            self.done = self.done + operations
            self.undone = []
        return played.results[many:]

    def undo(self):
        if not self.done:
            return False
        self.undone = self.undone + [self.done[-1]]
        self.done = self.done[:-1]
        return True

    def redo(self):
        if not self.undone:
            return False
        self.done = self.done + [self.undone[-1]]
        self.undone = self.undone[:-1]
        return True


def any_operation(source, played):
    """An operation that may be in order or not, from this random source, behind what was played."""
    name = source.choice(NAMES)
    if name == "take":
        # Letters that lie there, that have come, and some that have not.
        letters = played.pile + list(range(played.come + 2)) + [-1, True, None]
        return name, source.choice(letters)
    if source.random() < 0.1:
        return name, source.choice((-1, 0, 10, 201, None, "1", True, [1]))
    return name, source.randint(0, 7)
