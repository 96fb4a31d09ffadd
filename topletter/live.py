"""Live piles: letters come and are answered, operation by operation, which can be undone and tried out."""

from topletter.checks import check_number, is_number
from topletter.course import Course
from topletter.errors import AlreadyOpen, InvalidOperation, PileError, UnknownLetter
from topletter.pile import row_at

MOST_TICKS = 200
MOST_AT_ONCE = 9
NAMES = ("pass_ticks", "add", "answer", "take")


def _is_operation(value):
    return isinstance(value, tuple) and len(value) == 2 and value[0] in NAMES


class LivePile:
    """A pile that begins empty, ahead of tick 0, and its operations; a context manager."""

    def __init__(self, timetable):
        self._rows = timetable.rows
        self._now = Course()
        # The course to which the end of an open block leads back, or None if no block is open.
        self._before = None

    @classmethod
    def replay(cls, timetable, operations):
        """The live pile after a list of operations."""
        live = cls(timetable)
        live.apply(*operations)
        return live

    @property
    def next_tick(self):
        """The tick that comes next."""
        return self._now.tick

    @property
    def lying(self):
        """The tuple of the letters on the pile, the bottom one first."""
        return tuple(self._now.pile)

    @property
    def answered(self):
        """The list of all `(letter, tick)` of answered letters, in order."""
        return [(letter, tick) for letter, tick in self._now.ticks.items()]

    @property
    def history(self):
        """The list of the operations in effect."""
        return [operation for operation, _, _, _ in self._now.steps]

    def __len__(self):
        return len(self._now.pile)

    def __contains__(self, letter):
        return is_number(letter, 0, self._now.come - 1) and letter in self._now.pile

    def __call__(self, letter):
        """The tick of a letter's answer, or None if it has not been answered."""
        if not is_number(letter, 0, self._now.come - 1):
            raise UnknownLetter(letter)
        return self._now.ticks.get(letter)

    def pass_ticks(self, count):
        """Let so many ticks pass, and return the list of the answered letters."""
        check_number(count, 0, MOST_TICKS)
        now = self._now
        moment = now.moment()
        letters = []
        for _ in range(count):
            come, answers = row_at(self._rows, now.tick)
            now.put(come)
            letters.extend(now.answer_top(answers))
            now.tick = now.tick + 1
        now.add_step(("pass_ticks", count), moment, letters)
        return letters

    def add(self, count):
        """Put so many further letters onto the pile, and return the list of their numbers."""
        check_number(count, 1, MOST_AT_ONCE)
        now = self._now
        moment = now.moment()
        letters = now.put(count)
        now.add_step(("add", count), moment)
        return letters

    def answer(self, count):
        """Answer so many letters at once, or all if there are fewer, and return the list of these."""
        check_number(count, 1, MOST_AT_ONCE)
        now = self._now
        moment = now.moment()
        letters = now.answer_top(count)
        now.add_step(("answer", count), moment, letters)
        return letters

    def take(self, letter):
        """Take a letter from the pile without answering it, and return how many letters lay above it."""
        if letter not in self:
            raise UnknownLetter(letter)
        now = self._now
        moment = now.moment()
        above = now.take_out(letter)
        now.add_step(("take", letter), moment, (), above)
        return above

    def _execute(self, operation):
        name, given = operation
        if name == "pass_ticks":
            return self.pass_ticks(given)
        if name == "add":
            return self.add(given)
        if name == "answer":
            return self.answer(given)
        return self.take(given)

    def undo(self):
        """Undo the last operation in effect, and return whether there was one."""
        now = self._now
        if not now.steps:
            return False
        operation = now.step_back()
        now.undone.append(operation)
        return True

    def redo(self):
        """Execute the operation that was undone last once more, and return whether there was one."""
        now = self._now
        if not now.undone:
            return False
        *others, operation = now.undone
        self._execute(operation)
        now.undone = others
        return True

    def apply(self, *operations):
        """Execute operations, all or none of them, and return the list of their results."""
        for index, operation in enumerate(operations):
            if not _is_operation(operation):
                raise InvalidOperation(index)
        now = self._now
        undone = now.undone
        results = []
        try:
            for operation in operations:
                results.append(self._execute(operation))
        except PileError:
            for _ in results:
                now.step_back()
            now.undone = undone
            raise
        return results

    def lying_after(self, *operations):
        """The tuple of the letters on the pile after these operations, which are executed in a block."""
        with self:
            self.apply(*operations)
            lying = self.lying
        return lying

    def __enter__(self):
        if self._before is not None:
            raise AlreadyOpen("a block of this live pile is open")
        now = self._now
        self._now = now.copied()
        self._before = now
        return self

    def __exit__(self, kind, value, trace):
        self._now = self._before
        self._before = None
