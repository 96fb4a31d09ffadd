import random
import unittest

from tests.plain_live import PlainLive, Refused, any_operation
from tests.plain_pile import PlainPile, mixed_rows, small_rows
from tests.wrong_values import NO_NUMBERS
from topletter.errors import AlreadyOpen, InvalidNumber, InvalidOperation, PileError, UnknownLetter
from topletter.live import LivePile
from topletter.timetables import Timetable

TIMETABLE = Timetable((2, 1), (0, 1), (1, 0))
NO_LETTERS = Timetable((0, 3))


class Stop(Exception):
    """An error that is not one of the package."""


def state(live):
    """All that a live pile tells, but for what `redo` would do."""
    come = 0
    told = []
    try:
        while True:
            told.append((live(come), come in live))
            come += 1
    except UnknownLetter:
        pass
    return [live.next_tick, live.lying, live.answered, live.history, len(live), told]


def redone(live):
    """The operations that `redo` would execute, one after the other; they are undone again."""
    found = []
    while live.redo():
        found.append(live.history[-1])
    for _ in found:
        live.undo()
    return found


class LiveCase(unittest.TestCase):
    def assert_refused(self, live, error, name, *given):
        """The call raises just this error, and all is as before."""
        before = [state(live), redone(live)]
        with self.assertRaises(error) as caught:
            getattr(live, name)(*given)
        self.assertIs(type(caught.exception), error)
        self.assertEqual([state(live), redone(live)], before)
        return caught.exception

    def assert_like(self, live, plain):
        """A live pile tells just what the plain one does."""
        played = plain.played()
        told = [(played.answer_of(letter), letter in played.pile) for letter in range(played.come)]
        expected = [played.tick, tuple(played.pile), played.answered, plain.done, len(played.pile), told]
        self.assertEqual(repr(state(live)), repr(expected), plain.rows)
        self.assertEqual(redone(live), plain.undone[::-1])


class Operations(LiveCase):
    def test_it_begins_empty_ahead_of_tick_0(self):
        self.assertEqual(state(LivePile(TIMETABLE)), [0, (), [], [], 0, []])

    def test_ticks_pass_as_by_the_timetable(self):
        for rows in small_rows() + mixed_rows(48):
            pile = PlainPile(rows, 60)
            live = LivePile(Timetable(*rows))
            for tick in range(60):
                self.assertEqual(live.pass_ticks(1), pile.answered[tick], (rows, tick))
                self.assertEqual(live.lying, tuple(pile.piles[tick]), (rows, tick))
                self.assertEqual(len(live), pile.heights[tick], (rows, tick))
                self.assertEqual(live.next_tick, tick + 1)
            self.assertEqual(live.answered, list(pile.answers.items()), rows)
            for letter in range(len(pile.arrivals)):
                self.assertEqual(live(letter), pile.answers.get(letter), (rows, letter))

    def test_many_ticks_at_once_are_as_many_single_ones(self):
        for rows in mixed_rows(48):
            pile = PlainPile(rows, 203)
            live = LivePile(Timetable(*rows))
            self.assertEqual(live.pass_ticks(3), sum(pile.answered[:3], []))
            self.assertEqual(live.pass_ticks(200), sum(pile.answered[3:], []))
            self.assertEqual(live.lying, tuple(pile.piles[-1]))
            self.assertEqual(live.answered, list(pile.answers.items()))
            self.assertEqual(live.history, [("pass_ticks", 3), ("pass_ticks", 200)])

    def test_no_ticks_are_an_operation(self):
        live = LivePile(TIMETABLE)
        self.assertEqual(live.pass_ticks(0), [])
        self.assertEqual(state(live), [0, (), [], [("pass_ticks", 0)], 0, []])
        self.assertIs(live.undo(), True)
        self.assertEqual(live.history, [])

    def test_200_ticks(self):
        live = LivePile(Timetable((9, 0)))
        self.assertEqual(live.pass_ticks(200), [])
        self.assertEqual(live.lying, tuple(range(1800)))
        self.assertEqual(live.pass_ticks(200), [])
        self.assertEqual([live.next_tick, len(live)], [400, 3600])

    def test_ticks_out_of_range(self):
        live = LivePile(TIMETABLE)
        live.apply(("add", 2), ("answer", 1))
        live.undo()
        for count in (-1, 201, 10 ** 18, 10 ** 5000, -(10 ** 5000)) + NO_NUMBERS:
            self.assert_refused(live, InvalidNumber, "pass_ticks", count)

    def test_further_letters(self):
        live = LivePile(TIMETABLE)
        self.assertEqual(live.add(1), [0])
        self.assertEqual(live.add(9), [1, 2, 3, 4, 5, 6, 7, 8, 9])
        self.assertEqual(live.pass_ticks(1), [11])
        self.assertEqual(live.add(2), [12, 13])
        self.assertEqual(live.lying, tuple(range(11)) + (12, 13))
        self.assertEqual(live.history, [("add", 1), ("add", 9), ("pass_ticks", 1), ("add", 2)])

    def test_numbers_are_not_given_twice(self):
        live = LivePile(NO_LETTERS)
        live.apply(("add", 3), ("answer", 1), ("take", 0))
        self.assertEqual(live.add(1), [3])
        self.assertEqual(live.lying, (1, 3))

    def test_answers_at_once(self):
        live = LivePile(TIMETABLE)
        live.add(9)
        live.add(2)
        self.assertEqual(live.answer(1), [10])
        self.assertEqual(live.answer(9), [9, 8, 7, 6, 5, 4, 3, 2, 1])
        self.assertEqual(live.answer(2), [0])
        self.assertEqual(live.answered, [(letter, 0) for letter in reversed(range(11))])
        self.assertEqual(live.next_tick, 0)

    def test_an_answer_without_letters_is_an_operation(self):
        live = LivePile(TIMETABLE)
        live.add(1)
        live.undo()
        self.assertEqual(live.answer(3), [])
        self.assertEqual(state(live), [0, (), [], [("answer", 3)], 0, []])
        self.assertIs(live.redo(), False)
        self.assertIs(live.undo(), True)
        self.assertEqual(live.history, [])

    def test_answers_at_once_are_told_with_the_tick_that_comes_next(self):
        live = LivePile(Timetable((2, 1)))
        live.pass_ticks(3)
        live.answer(1)
        live.pass_ticks(1)
        self.assertEqual(live.answered, [(1, 0), (3, 1), (5, 2), (4, 3), (7, 3)])
        self.assertEqual([live(letter) for letter in (4, 5, 7, 6, 0)], [3, 2, 3, None, None])

    def test_numbers_of_letters_out_of_range(self):
        live = LivePile(TIMETABLE)
        live.apply(("pass_ticks", 1), ("add", 2))
        live.undo()
        for count in (0, 10, -1, 10 ** 18, 10 ** 5000) + NO_NUMBERS:
            self.assert_refused(live, InvalidNumber, "add", count)
            self.assert_refused(live, InvalidNumber, "answer", count)

    def test_a_letter_is_taken_from_anywhere(self):
        for letter, above in ((0, 4), (2, 2), (3, 1), (4, 0)):
            live = LivePile(NO_LETTERS)
            live.add(5)
            found = live.take(letter)
            self.assertEqual([found, type(found)], [above, int])
            self.assertEqual(live.lying, tuple(k for k in range(5) if k != letter))
            self.assertEqual([live(letter), letter in live, len(live), live.answered], [None, False, 4, []])
            self.assertEqual(live.history, [("add", 5), ("take", letter)])

    def test_letters_above_a_taken_one_are_counted_as_they_lie(self):
        live = LivePile(NO_LETTERS)
        live.add(6)
        self.assertEqual([live.take(letter) for letter in (3, 1, 4, 0, 5, 2)], [2, 3, 1, 2, 0, 0])
        self.assertEqual([live.lying, live.answer(1)], [(), []])

    def test_a_taken_letter_is_not_answered(self):
        live = LivePile(Timetable((3, 0), (0, 9)))
        live.pass_ticks(1)
        live.take(1)
        self.assertEqual(live.pass_ticks(1), [2, 0])
        self.assertEqual([live(0), live(1), live(2)], [1, None, 1])

    def test_letters_that_are_not_on_the_pile_are_not_taken(self):
        live = LivePile(TIMETABLE)
        live.apply(("pass_ticks", 1), ("add", 3), ("take", 3), ("add", 1), ("answer", 1))
        live.undo()
        self.assertEqual(live.lying, (0, 2, 4, 5))
        # Letter 1 is answered, 3 is taken, and all others have not come.
        for letter in (1, 3, 6, 7, -1, 10 ** 18, 10 ** 5000) + NO_NUMBERS:
            error = self.assert_refused(live, UnknownLetter, "take", letter)
            self.assertIs(error.letter, letter)

    def test_nothing_is_taken_from_an_empty_pile(self):
        live = LivePile(TIMETABLE)
        for letter in (0, 1, -1, False, None, "0", []):
            error = self.assert_refused(live, UnknownLetter, "take", letter)
            self.assertIs(error.letter, letter)

    def test_which_letters_lie_there(self):
        live = LivePile(TIMETABLE)
        live.apply(("pass_ticks", 3), ("add", 3), ("take", 4), ("answer", 1))
        self.assertEqual([letter in live for letter in range(8)], [False, False, True, True] + [False] * 4)
        self.assertEqual([letter in live for letter in (-1, 10 ** 18, 10 ** 5000)], [False] * 3)
        self.assertIs(2 in live, True)
        self.assertIs(1 in live, False)

    def test_what_is_no_number_lies_nowhere(self):
        live = LivePile(TIMETABLE)
        live.add(2)
        for value in NO_NUMBERS + ((0, 1), [0, 1], "01"):
            self.assertIs(value in live, False)
            self.assertIs(value in LivePile(TIMETABLE), False)

    def test_when_a_letter_was_answered(self):
        live = LivePile(TIMETABLE)
        live.apply(("pass_ticks", 4), ("answer", 1), ("add", 1), ("take", 2))
        self.assertEqual([live(letter) for letter in range(6)], [1, 0, None, 4, 3, None])

    def test_letters_that_have_not_come_are_unknown(self):
        live = LivePile(TIMETABLE)
        for letter in (0, 1, 2):
            self.assertEqual(self.assert_refused(live, UnknownLetter, "__call__", letter).letter, letter)
        live.pass_ticks(1)
        self.assertEqual([live(0), live(1)], [None, 0])
        for letter in (2, 3, -1, -2, 10 ** 18, 10 ** 5000) + NO_NUMBERS:
            error = self.assert_refused(live, UnknownLetter, "__call__", letter)
            self.assertIs(error.letter, letter)

    def test_a_timetable_without_letters_is_in_order(self):
        live = LivePile(NO_LETTERS)
        self.assertEqual(live.pass_ticks(200), [])
        self.assertEqual([live.add(4), live.pass_ticks(2), live.answered], [
            [0, 1, 2, 3], [3, 2, 1, 0], [(3, 200), (2, 200), (1, 200), (0, 201)],
        ])

    def test_properties_cannot_be_assigned(self):
        live = LivePile(TIMETABLE)
        for name in ("next_tick", "lying", "answered", "history"):
            with self.assertRaises(AttributeError):
                setattr(live, name, ())

    def test_the_kinds_of_what_is_told(self):
        live = LivePile(TIMETABLE)
        live.apply(("pass_ticks", 2), ("add", 1))
        self.assertEqual(repr([live.next_tick, live.lying]), "[2, (2,)]")
        self.assertEqual(repr(live.answered), "[(1, 0), (0, 1)]")
        self.assertEqual(repr(live.history), "[('pass_ticks', 2), ('add', 1)]")

    def test_piles_of_one_timetable_do_not_touch_each_other(self):
        one = LivePile(TIMETABLE)
        other = LivePile(TIMETABLE)
        one.apply(("pass_ticks", 2), ("add", 1))
        one.undo()
        self.assertEqual(state(other), [0, (), [], [], 0, []])
        self.assertIs(other.redo(), False)
        self.assertEqual(TIMETABLE.rows, ((2, 1), (0, 1), (1, 0)))


class ReturnedLists(LiveCase):
    def test_returned_lists_may_be_changed(self):
        live = LivePile(TIMETABLE)
        results = [live.pass_ticks(4), live.add(3), live.answer(2), live.answered, live.history]
        results += live.apply(("pass_ticks", 1), ("add", 2), ("answer", 1))
        expected = state(live)
        for result in results:
            result.append("more")
            result[0] = "other"
        self.assertEqual(state(live), expected)
        for _ in range(6):
            self.assertIs(live.undo(), True)
        self.assertEqual(state(live), [0, (), [], [], 0, []])
        for _ in range(6):
            self.assertIs(live.redo(), True)
        self.assertEqual(state(live), expected)

    def test_changed_results_do_not_reach_what_was_saved_for_a_block(self):
        live = LivePile(TIMETABLE)
        letters = live.pass_ticks(4)
        before = state(live)
        with live:
            live.answered.clear()
            live.history.clear()
            letters.clear()
            live.add(3).clear()
        self.assertEqual(state(live), before)
        live.undo()
        self.assertEqual(state(live), [0, (), [], [], 0, []])

    def test_the_list_given_to_replay_is_neither_changed_nor_kept(self):
        operations = [("pass_ticks", 2), ("add", 1)]
        live = LivePile.replay(TIMETABLE, operations)
        self.assertEqual(operations, [("pass_ticks", 2), ("add", 1)])
        operations.clear()
        self.assertEqual(live.history, [("pass_ticks", 2), ("add", 1)])


class UndoAndRedo(LiveCase):
    def test_nothing_to_undo_or_redo(self):
        live = LivePile(TIMETABLE)
        self.assertIs(live.undo(), False)
        self.assertIs(live.redo(), False)
        live.add(1)
        self.assertIs(live.redo(), False)
        self.assertEqual(live.history, [("add", 1)])

    def test_all_operations_are_undone_and_redone(self):
        for rows in mixed_rows(24):
            live = LivePile(Timetable(*rows))
            operations = [("pass_ticks", 5), ("add", 4), ("answer", 6), ("add", 2), ("pass_ticks", 0), ("add", 9),
                          ("take", 3), ("pass_ticks", 40)]
            states = [state(live)]
            for name, given in operations:
                if name == "take":
                    # Not the letter, but the place of the one that is taken.
                    given = live.lying[given]
                getattr(live, name)(given)
                states.append(state(live))
            for expected in reversed(states[:-1]):
                self.assertIs(live.undo(), True)
                self.assertEqual(state(live), expected)
            self.assertIs(live.undo(), False)
            for expected in states[1:]:
                self.assertIs(live.redo(), True)
                self.assertEqual(state(live), expected)
            self.assertIs(live.redo(), False)

    def test_redo_behind_an_operation(self):
        for name, given in (("add", 1), ("pass_ticks", 0), ("answer", 1), ("take", 0)):
            live = LivePile(TIMETABLE)
            live.apply(("add", 2), ("add", 3))
            live.undo()
            getattr(live, name)(given)
            self.assertIs(live.redo(), False)
            self.assertEqual(live.history, [("add", 2), (name, given)])

    def test_redo_behind_an_operation_that_was_refused(self):
        for name, given in (("add", 0), ("pass_ticks", 201), ("answer", None), ("take", 2)):
            live = LivePile(TIMETABLE)
            live.apply(("add", 2), ("add", 3))
            live.undo()
            with self.assertRaises(PileError):
                getattr(live, name)(given)
            self.assertIs(live.redo(), True)
            self.assertEqual([live.history, live.lying], [[("add", 2), ("add", 3)], (0, 1, 2, 3, 4)])

    def test_several_operations_are_redone_in_order(self):
        live = LivePile(TIMETABLE)
        live.apply(("add", 1), ("add", 2), ("add", 3))
        self.assertEqual([live.undo(), live.undo(), live.redo(), live.undo()], [True] * 4)
        self.assertEqual([live.redo(), live.history[-1]], [True, ("add", 2)])
        self.assertEqual([live.redo(), live.history[-1]], [True, ("add", 3)])
        self.assertIs(live.redo(), False)

    def test_an_operation_behind_an_undone_one_takes_its_numbers(self):
        live = LivePile(TIMETABLE)
        live.add(3)
        live.undo()
        self.assertEqual(live.add(1), [0])
        live.undo()
        self.assertEqual([live.redo(), live.lying, live.redo()], [True, (0,), False])

    def test_a_letter_is_answered_at_another_tick_after_an_undo(self):
        live = LivePile(Timetable((1, 0)))
        live.pass_ticks(1)
        live.answer(1)
        self.assertEqual(live(0), 1)
        live.undo()
        self.assertEqual([live(0), live.answered], [None, []])
        live.pass_ticks(2)
        live.answer(9)
        self.assertEqual([live(0), live.answered], [3, [(2, 3), (1, 3), (0, 3)]])

    def test_a_taken_letter_lies_where_it_lay(self):
        live = LivePile(TIMETABLE)
        live.apply(("add", 5), ("take", 1), ("take", 3), ("take", 4))
        self.assertEqual([live.undo(), live.lying], [True, (0, 2, 4)])
        self.assertEqual([live.undo(), live.lying], [True, (0, 2, 3, 4)])
        self.assertEqual([live.undo(), live.lying], [True, (0, 1, 2, 3, 4)])


class ManyAtOnce(LiveCase):
    def test_results_in_order(self):
        live = LivePile(TIMETABLE)
        found = live.apply(("pass_ticks", 3), ("add", 2), ("answer", 1), ("take", 2), ("pass_ticks", 0))
        self.assertEqual(repr(found), "[[1, 0], [3, 4], [4], 1, []]")
        self.assertEqual(live.lying, (3,))

    def test_each_one_is_undone_alone(self):
        live = LivePile(TIMETABLE)
        live.apply(("pass_ticks", 1), ("add", 1))
        self.assertEqual([live.undo(), live.history], [True, [("pass_ticks", 1)]])

    def test_without_operations(self):
        live = LivePile(TIMETABLE)
        live.apply(("add", 1), ("add", 2))
        live.undo()
        self.assertEqual(live.apply(), [])
        self.assertEqual([live.history, live.redo(), live.history], [[("add", 1)], True, [("add", 1), ("add", 2)]])

    def test_with_operations_there_is_nothing_to_redo(self):
        live = LivePile(TIMETABLE)
        live.add(2)
        live.undo()
        live.apply(("pass_ticks", 0))
        self.assertIs(live.redo(), False)

    def test_an_error_among_them(self):
        good = [("pass_ticks", 4), ("add", 3), ("take", 0), ("answer", 4)]
        bad = [(("pass_ticks", 201), InvalidNumber), (("add", 10), InvalidNumber), (("answer", 0), InvalidNumber),
               (("take", 5), UnknownLetter), (("add", True), InvalidNumber), (("take", None), UnknownLetter),
               (("add", [1]), InvalidNumber), (("answer", "1"), InvalidNumber), (("pass_ticks", (1,)), InvalidNumber)]
        for operation, error in bad:
            live = LivePile(TIMETABLE)
            live.apply(("add", 5), ("take", 1), ("pass_ticks", 2), ("add", 1))
            live.undo()
            live.undo()
            self.assert_refused(live, error, "apply", operation)
            self.assert_refused(live, error, "apply", *good, operation)
            self.assert_refused(live, error, "apply", *good, operation, *good)
            live.redo()
            live.redo()
            self.assert_refused(live, error, "apply", good[0], good[1], operation)

    def test_the_first_error_is_raised(self):
        live = LivePile(TIMETABLE)
        error = self.assert_refused(live, UnknownLetter, "apply", ("add", 1), ("take", 7), ("take", 8), ("add", 0))
        self.assertEqual(error.letter, 7)

    def test_what_is_no_operation(self):
        live = LivePile(TIMETABLE)
        live.apply(("add", 2), ("add", 3))
        live.undo()
        wrong = [(), ("add",), ("add", 1, 2), ("undo", 1), ("redo",), ("apply", ()), ("lying_after", 1), ("ADD", 1),
                 ("", 1), ["add", 1], "add", "ad", ("add", 1, None), (1, "add"), (None, 1), (["add"], 1), (("add",), 1),
                 (True, 1), None, 0, 1, True, [], ("_execute", 1), ("history", 0), ("replay", 1), (b"add", 1)]
        for operation in wrong:
            error = self.assert_refused(live, InvalidOperation, "apply", operation)
            self.assertEqual(error.index, 0)
            error = self.assert_refused(live, InvalidOperation, "apply", ("add", 1), ("take", 0), operation)
            self.assertEqual(error.index, 2)

    def test_the_first_of_several_is_told(self):
        live = LivePile(TIMETABLE)
        error = self.assert_refused(live, InvalidOperation, "apply", ("add", 1), None, ("add", 1), ("add",))
        self.assertEqual(error.index, 1)

    def test_all_are_looked_at_before_any_is_executed(self):
        live = LivePile(TIMETABLE)
        error = self.assert_refused(live, InvalidOperation, "apply", ("take", 5), ("add", 0), ("add",))
        self.assertEqual(error.index, 2)

    def test_it_is_in_order_again_after_an_error(self):
        live = LivePile(TIMETABLE)
        with self.assertRaises(UnknownLetter):
            live.apply(("pass_ticks", 1), ("take", 5))
        self.assertEqual([live.apply(("pass_ticks", 3)), live.undo(), live.redo()], [[[1, 0]], True, True])


class Replay(LiveCase):
    def test_it_is_as_after_the_operations(self):
        for rows in mixed_rows(24):
            live = LivePile(Timetable(*rows))
            live.apply(("pass_ticks", 4), ("add", 3), ("answer", 2))
            live.take(live.lying[0])
            live.apply(("pass_ticks", 7), ("add", 1), ("add", 2))
            live.undo()
            other = LivePile.replay(Timetable(*rows), live.history)
            self.assertIsInstance(other, LivePile)
            self.assertEqual(state(other), state(live))
            self.assertIs(other.redo(), False)

    def test_without_operations(self):
        self.assertEqual(state(LivePile.replay(TIMETABLE, [])), state(LivePile(TIMETABLE)))

    def test_errors(self):
        with self.assertRaises(InvalidOperation) as caught:
            LivePile.replay(TIMETABLE, [("take", 3), ("add", 1, 1)])
        self.assertEqual(caught.exception.index, 1)
        with self.assertRaises(UnknownLetter) as caught:
            LivePile.replay(TIMETABLE, [("add", 1), ("take", "0")])
        self.assertEqual(caught.exception.letter, "0")
        for name, given in (("add", 0), ("answer", 10), ("pass_ticks", -1)):
            with self.assertRaises(InvalidNumber):
                LivePile.replay(TIMETABLE, [("add", 1), (name, given)])


class Blocks(LiveCase):
    def begun(self):
        """A pile with something to undo, and something to redo."""
        live = LivePile(TIMETABLE)
        live.apply(("pass_ticks", 4), ("add", 3), ("take", 5), ("answer", 1), ("add", 1), ("pass_ticks", 2))
        live.undo()
        live.undo()
        return live

    def test_after_a_block_all_is_as_before(self):
        live = self.begun()
        before = [state(live), redone(live)]
        with live:
            self.assertEqual([state(live), redone(live)], before)
            live.pass_ticks(3)
            live.take(2)
            live.add(9)
            live.answer(4)
            self.assertEqual(live.next_tick, 7)
        self.assertEqual([state(live), redone(live)], before)

    def test_undo_and_redo_within_a_block(self):
        live = self.begun()
        before = [state(live), redone(live)]
        with live:
            while live.undo():
                pass
            self.assertEqual(state(live), state(LivePile(TIMETABLE)))
            live.redo()
            live.add(1)
            self.assertIs(live.redo(), False)
        self.assertEqual([state(live), redone(live)], before)
        with live:
            self.assertEqual([live.redo(), live.redo(), live.redo()], [True, True, False])
        self.assertEqual([state(live), redone(live)], before)

    def test_an_error_within_a_block(self):
        live = self.begun()
        before = [state(live), redone(live)]
        for error in (Stop(), UnknownLetter(3), KeyError("add")):
            with self.assertRaises(type(error)) as caught:
                with live:
                    live.pass_ticks(2)
                    live.undo()
                    live.undo()
                    raise error
            self.assertIs(caught.exception, error)
            self.assertEqual([state(live), redone(live)], before)

    def test_an_operation_that_is_refused_ends_a_block(self):
        live = self.begun()
        before = [state(live), redone(live)]
        with self.assertRaises(InvalidNumber):
            with live:
                live.add(2)
                live.add(10)
        self.assertEqual([state(live), redone(live)], before)

    def test_a_block_within_another_one(self):
        live = self.begun()
        before = [state(live), redone(live)]
        with live:
            live.add(1)
            within = [state(live), redone(live)]
            with self.assertRaises(AlreadyOpen):
                with live:
                    self.fail("a block within another one was entered")
            self.assertEqual([state(live), redone(live)], within)
            # The outer block is still open.
            with self.assertRaises(AlreadyOpen):
                with live:
                    self.fail("a block within another one was entered")
            live.add(1)
        self.assertEqual([state(live), redone(live)], before)

    def test_an_error_of_the_inner_block_ends_the_outer_one(self):
        live = self.begun()
        before = [state(live), redone(live)]
        with self.assertRaises(AlreadyOpen):
            with live:
                live.add(1)
                with live:
                    self.fail("a block within another one was entered")
        self.assertEqual([state(live), redone(live)], before)
        with live:
            live.add(1)
        self.assertEqual([state(live), redone(live)], before)

    def test_blocks_one_after_the_other(self):
        live = self.begun()
        before = [state(live), redone(live)]
        for _ in range(3):
            with live:
                live.add(2)
            self.assertEqual([state(live), redone(live)], before)
        live.add(2)
        self.assertEqual(live.history, before[0][3] + [("add", 2)])

    def test_blocks_of_several_piles(self):
        one = self.begun()
        other = LivePile(TIMETABLE)
        before = state(one)
        with one:
            one.add(1)
            with other:
                other.add(1)
                one.add(1)
            self.assertEqual([len(one), len(other)], [len(before[1]) + 2, 0])
        self.assertEqual(state(one), before)

    def test_return_and_break_end_a_block(self):
        live = self.begun()
        before = [state(live), redone(live)]

        def height_then():
            with live:
                live.add(4)
                return len(live)

        self.assertEqual(height_then(), len(before[0][1]) + 4)
        for _ in range(2):
            with live:
                live.undo()
                break
        self.assertEqual([state(live), redone(live)], before)


class LyingAfter(LiveCase):
    def test_what_lies_there_then(self):
        live = LivePile(TIMETABLE)
        live.apply(("pass_ticks", 1), ("add", 2))
        live.undo()
        before = [state(live), redone(live)]
        found = live.lying_after(("pass_ticks", 2), ("add", 3), ("take", 3))
        self.assertEqual(repr(found), "(2, 4, 5)")
        self.assertEqual([state(live), redone(live)], before)

    def test_without_operations(self):
        live = LivePile(TIMETABLE)
        live.apply(("add", 2), ("add", 1))
        live.undo()
        self.assertEqual(live.lying_after(), (0, 1))
        self.assertIs(live.redo(), True)

    def test_errors(self):
        live = LivePile(TIMETABLE)
        live.apply(("add", 2), ("add", 1))
        live.undo()
        error = self.assert_refused(live, InvalidOperation, "lying_after", ("add", 1), ("take", 5), ("undo", 1))
        self.assertEqual(error.index, 2)
        error = self.assert_refused(live, UnknownLetter, "lying_after", ("add", 1), ("take", 3))
        self.assertEqual(error.letter, 3)
        self.assert_refused(live, InvalidNumber, "lying_after", ("add", 1), ("answer", 0))
        # The block was left each time.
        self.assertEqual(live.lying_after(("add", 1)), (0, 1, 2))

    def test_within_a_block(self):
        live = LivePile(TIMETABLE)
        live.add(2)
        with live:
            live.add(1)
            for operations in ([], [("add", 1)], [("add",)], [("take", 9)], [None]):
                self.assert_refused(live, AlreadyOpen, "lying_after", *operations)
            self.assertEqual(live.lying, (0, 1, 2))
        self.assertEqual(live.lying, (0, 1))


class AgainstThePlainPile(LiveCase):
    """Random courses, in which a live pile and one that is played anew each time must always agree."""

    def same_operations(self, live, plain, source):
        played = plain.played()
        operations = [any_operation(source, played) for _ in range(source.choice((0, 1, 1, 2, 4)))]
        try:
            expected = plain.apply(operations)
        except Refused as refused:
            with self.assertRaises(InvalidNumber if refused.number else UnknownLetter) as caught:
                live.apply(*operations)
            if not refused.number:
                self.assertIs(caught.exception.letter, refused.letter)
        else:
            if len(operations) == 1:
                name, given = operations[0]
                self.assertEqual(repr(getattr(live, name)(given)), repr(expected[0]))
            else:
                self.assertEqual(repr(live.apply(*operations)), repr(expected))

    def same_steps(self, live, plain, source, many):
        for _ in range(many):
            chance = source.random()
            if chance < 0.5:
                self.same_operations(live, plain, source)
            elif chance < 0.75:
                self.assertIs(live.undo(), plain.undo())
            else:
                self.assertIs(live.redo(), plain.redo())
            self.assert_like(live, plain)

    def same_block(self, live, plain, source):
        """A block that ends with an error or not, in which all goes on alike."""
        within = PlainLive(plain.rows)
        within.done = plain.done
        within.undone = plain.undone
        wrong = source.random() < 0.5
        try:
            with live:
                self.same_steps(live, within, source, 4)
                if wrong:
                    raise Stop()
        except Stop:
            self.assertTrue(wrong)
        self.assert_like(live, plain)

    def same_lying_after(self, live, plain, source):
        within = PlainLive(plain.rows)
        within.done = plain.done
        operations = [any_operation(source, plain.played()) for _ in range(3)]
        try:
            within.apply(operations)
        except Refused as refused:
            with self.assertRaises(InvalidNumber if refused.number else UnknownLetter):
                live.lying_after(*operations)
        else:
            self.assertEqual(live.lying_after(*operations), tuple(within.played().pile))
        self.assert_like(live, plain)

    def test_random_courses(self):
        for seed, rows in enumerate(mixed_rows(60)):
            source = random.Random(seed)
            live = LivePile(Timetable(*rows))
            plain = PlainLive(rows)
            for _ in range(4):
                self.same_steps(live, plain, source, 6)
                self.same_block(live, plain, source)
                self.same_lying_after(live, plain, source)
            again = LivePile.replay(Timetable(*rows), live.history)
            self.assertEqual(state(again), state(live))


if __name__ == "__main__":
    unittest.main()
