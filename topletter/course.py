"""The course of a live pile: what lies on it, what was answered, and which operations led to this."""


class Course:
    """What has happened so far, with a step for each operation in effect."""

    def __init__(self):
        # The tick that comes next, and how many letters have come.
        self.tick = 0
        self.come = 0
        # The letters on the pile, the bottom one first.
        self.pile = []
        # The tick of each answered letter, in the order in which they were answered.
        self.ticks = {}
        self.steps = []
        # The operations that can be executed once more, the one that was undone last at the end.
        self.undone = []

    def copied(self):
        """The same course, to be led on without a change of this one."""
        other = Course()
        other.tick = self.tick
        other.come = self.come
        other.pile = list(self.pile)
        other.ticks = dict(self.ticks)
        other.steps = list(self.steps)
        other.undone = list(self.undone)
        return other

    def put(self, many):
        """Put so many letters onto the pile, and return the list of their numbers."""
        letters = list(range(self.come, self.come + many))
        self.pile.extend(letters)
        self.come = self.come + many
        return letters

    def answer_top(self, many):
        """Answer so many letters, or all if there are fewer, and return the list of these."""
        letters = []
        while self.pile and len(letters) < many:
            letter = self.pile.pop()
            self.ticks[letter] = self.tick
            letters.append(letter)
        return letters

    def take_out(self, letter):
        """Take a letter that lies on the pile from it, and return how many letters lay above it."""
        place = self.pile.index(letter)
        del self.pile[place]
        return len(self.pile) - place

    def moment(self):
        """What a step back must know of the time ahead of the step."""
        return self.tick, self.come

    def add_step(self, operation, moment, answered=(), above=0):
        """Note an executed operation: which letters it answered, and how many lay above the one that it took."""
        # The letters are copied, as callers may modify the list that they get.
        self.steps.append((operation, moment, tuple(answered), above))
        # A new list, as the former one may be needed again if a later operation is refused.
        self.undone = []

    def step_back(self):
        """Make it as it was ahead of the last step, and return the operation."""
        operation, moment, answered, above = self.steps.pop()
        self.tick, self.come = moment
        # Letters that came by this step lie above all others.
        while self.pile and self.pile[-1] >= self.come:
            self.pile.pop()
        for letter in reversed(list(answered)):
            del self.ticks[letter]
            if letter < self.come:
                self.pile.append(letter)
        name, given = operation
        if name == "take":
            self.pile.insert(len(self.pile) - above, given)
        return operation
