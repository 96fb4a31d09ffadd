import unittest

from tests.plain_pile import PlainPile, mixed_rows, small_rows, with_letters
from tests.wrong_values import LAST, NO_NUMBERS, OUT_OF_RANGE
from topletter import orders
from topletter.errors import InvalidNumber, NoLetters
from topletter.orders import bottom_answer, longest_bottom_wait, total_waiting
from topletter.timetables import Timetable


def come_by(timetable, tick):
    """How many letters have come when a tick has passed."""
    turns, row = divmod(tick, len(timetable))
    return turns * timetable.letters_per_round + sum(come for come, _ in timetable.rows[:row + 1])


def has_answers(rows):
    return any(answers for _, answers in rows)


class BottomAnswers(unittest.TestCase):
    def check_rows(self, rows, rounds):
        """Compare the letters of the first rounds; in a growing pile some are answered much later."""
        timetable = Timetable(*rows)
        ticks = 6 * rounds * len(rows)
        answers = PlainPile(rows, ticks, from_bottom=True).answers
        for letter in range(rounds * timetable.letters_per_round):
            found = bottom_answer(timetable, letter)
            if letter in answers:
                self.assertEqual(found, answers[letter], (rows, letter))
            elif has_answers(rows):
                self.assertGreaterEqual(found, ticks, (rows, letter))
            else:
                self.assertIsNone(found, (rows, letter))

    def test_small_timetables(self):
        for rows in with_letters(small_rows()):
            self.check_rows(rows, 3)

    def test_mixed_timetables(self):
        for rows in with_letters(mixed_rows(96)):
            self.check_rows(rows, 3)

    def test_as_many_letters_lie_on_the_pile_in_both_orders(self):
        for rows in with_letters(small_rows()[::7] + mixed_rows(24)):
            heights = PlainPile(rows, 4 * len(rows), from_bottom=True).heights
            self.assertEqual([Timetable(*rows)(tick) for tick in range(4 * len(rows))], heights)

    def test_far_letters_by_the_numbers_of_letters(self):
        # Up to a tick, those letters are answered that have come and do not lie on the pile.
        for rows in with_letters(small_rows()[::3] + mixed_rows(96)):
            timetable = Timetable(*rows)
            for tick in range(LAST // 10, LAST // 10 + len(rows)):
                answered = come_by(timetable, tick) - timetable(tick)
                if has_answers(rows):
                    self.assertLessEqual(bottom_answer(timetable, answered - 1), tick, rows)
                    self.assertGreater(bottom_answer(timetable, answered), tick, rows)
                else:
                    self.assertEqual(answered, 0)

    def test_the_bottom_letter_is_answered_first(self):
        timetable = Timetable((3, 1), (0, 1), (0, 1))
        self.assertEqual([bottom_answer(timetable, letter) for letter in range(6)], [0, 1, 2, 3, 4, 5])
        timetable = Timetable((2, 0), (2, 0), (0, 3), (0, 9))
        self.assertEqual([bottom_answer(timetable, letter) for letter in range(4)], [2, 2, 2, 3])

    def test_letters_of_a_growing_pile_are_answered(self):
        self.assertEqual([bottom_answer(Timetable((9, 1)), letter) for letter in (0, 1, 9, 500)], [0, 1, 9, 500])
        self.assertEqual([bottom_answer(Timetable((9, 0), (0, 2)), letter) for letter in (0, 2, 10)], [1, 3, 11])

    def test_letters_that_are_never_answered(self):
        for letter in (0, 1, 17, LAST):
            self.assertIsNone(bottom_answer(Timetable((1, 0)), letter))
            self.assertIsNone(bottom_answer(Timetable((0, 0), (9, 0), (0, 0)), letter))

    def test_idle_answers_of_the_first_round_are_not_made_up_for(self):
        timetable = Timetable((0, 5), (6, 0))
        self.assertEqual([bottom_answer(timetable, letter) for letter in range(11)], [2] * 5 + [4] * 5 + [6])

    def test_first_and_last_letter(self):
        self.assertEqual([bottom_answer(Timetable((2, 1)), letter) for letter in (0, LAST)], [0, LAST])
        self.assertEqual([bottom_answer(Timetable((9, 9)), letter) for letter in (0, LAST)], [0, LAST // 9])
        self.assertEqual([bottom_answer(Timetable((1, 0), (0, 1)), letter) for letter in (0, LAST)], [1, 2 * LAST + 1])
        rows = [(9, 1)] + [(9, 0)] * 23
        self.assertEqual([bottom_answer(Timetable(*rows), letter) for letter in (0, LAST)], [0, 24 * LAST])

    def test_no_letters_is_raised_first(self):
        for letter in (0, LAST) + OUT_OF_RANGE + NO_NUMBERS:
            with self.assertRaises(NoLetters):
                bottom_answer(Timetable((0, 1), (0, 0)), letter)

    def test_wrong_letters(self):
        for timetable in (Timetable((2, 1)), Timetable((1, 0)), Timetable((1, 0), (0, 2))):
            for letter in OUT_OF_RANGE + NO_NUMBERS:
                with self.assertRaises(InvalidNumber):
                    bottom_answer(timetable, letter)


class LongestBottomWaits(unittest.TestCase):
    def test_against_the_plain_pile(self):
        for rows in with_letters(small_rows() + mixed_rows(192)):
            timetable = Timetable(*rows)
            expected = None
            if timetable.growth == 0:
                pile = PlainPile(rows, 8 * len(rows), from_bottom=True)
                expected = max(pile.waits(range(4 * timetable.letters_per_round)))
            self.assertEqual(longest_bottom_wait(timetable), expected, rows)

    def test_no_wait_at_all(self):
        self.assertEqual(longest_bottom_wait(Timetable((1, 1))), 0)
        self.assertEqual(longest_bottom_wait(Timetable((9, 9), (0, 0), (3, 5))), 0)

    def test_letters_of_the_first_round_can_wait_less(self):
        # In the first round, the pile is empty ahead of tick 0; in all later rounds 3 letters lie there.
        timetable = Timetable((2, 1), (0, 1), (0, 1), (0, 1), (0, 1), (3, 0))
        self.assertEqual([bottom_answer(timetable, letter) for letter in range(7)], [0, 1, 6, 7, 8, 9, 10])
        self.assertEqual(longest_bottom_wait(timetable), 4)

    def test_a_pile_that_never_gets_empty_again(self):
        timetable = Timetable((0, 4), (5, 1))
        self.assertEqual([timetable(tick) for tick in range(6)], [0, 4, 0, 4, 0, 4])
        self.assertEqual(longest_bottom_wait(timetable), 1)
        timetable = Timetable((2, 2), (0, 4), (9, 5))
        self.assertEqual([timetable(tick) for tick in range(6)], [0, 0, 4, 4, 0, 4])
        self.assertEqual(longest_bottom_wait(timetable), 2)

    def test_no_greatest_one(self):
        self.assertIsNone(longest_bottom_wait(Timetable((2, 1))))
        self.assertIsNone(longest_bottom_wait(Timetable((1, 0), (1, 1), (0, 0))))
        self.assertIsNone(longest_bottom_wait(Timetable((0, 5), (6, 0))))

    def test_letters_that_are_never_answered(self):
        self.assertIsNone(longest_bottom_wait(Timetable((1, 0))))
        self.assertIsNone(longest_bottom_wait(Timetable((0, 0), (9, 0))))

    def test_no_letters(self):
        for timetable in (Timetable((0, 0)), Timetable((0, 1), (0, 9))):
            with self.assertRaises(NoLetters):
                longest_bottom_wait(timetable)


class TotalWaiting(unittest.TestCase):
    def test_against_the_plain_pile(self):
        for rows in small_rows() + mixed_rows(72):
            timetable = Timetable(*rows)
            heights = PlainPile(rows, 4 * len(rows) + 1).heights
            for count in range(len(heights) + 1):
                self.assertEqual(total_waiting(timetable, count), sum(heights[:count]), (rows, count))

    def test_it_is_the_sum_of_all_waits_when_the_pile_is_empty(self):
        for from_bottom in (False, True):
            pile = PlainPile([(3, 1), (0, 2), (4, 3), (0, 1)], 8, from_bottom=from_bottom)
            waits = pile.waits(range(len(pile.arrivals)))
            self.assertEqual(total_waiting(Timetable((3, 1), (0, 2), (4, 3), (0, 1)), 8), sum(waits))

    def test_no_ticks(self):
        for timetable in (Timetable((2, 1)), Timetable((9, 0), (0, 1)), Timetable((0, 0))):
            self.assertEqual(total_waiting(timetable, 0), 0)

    def test_most_ticks(self):
        self.assertEqual(total_waiting(Timetable((1, 1)), LAST), 0)
        self.assertEqual(total_waiting(Timetable((2, 1)), LAST), LAST * (LAST + 1) // 2)
        self.assertEqual(total_waiting(Timetable((9, 0)), LAST), 9 * LAST * (LAST + 1) // 2)
        self.assertEqual(total_waiting(Timetable((2, 1), (0, 1)), LAST), LAST // 2)
        # The pile has 0, 6, 1, 7, 2, 8 .. letters.
        half = LAST // 2
        self.assertEqual(total_waiting(Timetable((0, 5), (6, 0)), LAST), half * (half - 1) + 6 * half)

    def test_each_further_tick_adds_its_letters(self):
        for rows in small_rows()[::5] + mixed_rows(48):
            timetable = Timetable(*rows)
            for count in range(LAST - len(rows) - 1, LAST):
                added = total_waiting(timetable, count + 1) - total_waiting(timetable, count)
                self.assertEqual(added, timetable(count), rows)

    def test_timetables_by_which_no_letters_come(self):
        for count in (0, 1, 5, LAST):
            self.assertEqual(total_waiting(Timetable((0, 1)), count), 0)
            self.assertEqual(total_waiting(Timetable((0, 0), (0, 9)), count), 0)

    def test_wrong_counts(self):
        for count in OUT_OF_RANGE + NO_NUMBERS:
            for timetable in (Timetable((2, 1)), Timetable((0, 1)), Timetable((1, 0), (0, 2))):
                with self.assertRaises(InvalidNumber):
                    total_waiting(timetable, count)


class Calls(unittest.TestCase):
    def test_equal_values_again(self):
        timetable = Timetable((2, 1), (0, 1), (1, 1))
        for _ in range(2):
            self.assertEqual(bottom_answer(timetable, 4), 4)
            self.assertEqual(longest_bottom_wait(timetable), 1)
            self.assertEqual(total_waiting(timetable, 9), 3)
        self.assertEqual(timetable.rows, ((2, 1), (0, 1), (1, 1)))

    def test_names_of_functions_and_arguments(self):
        timetable = Timetable((2, 1), (0, 1), (1, 1))
        self.assertEqual(bottom_answer(timetable=timetable, letter=3), 3)
        self.assertEqual(longest_bottom_wait(timetable=timetable), 1)
        self.assertEqual(total_waiting(timetable=timetable, count=9), 3)
        for name in ("bottom_answer", "longest_bottom_wait", "total_waiting"):
            self.assertEqual(getattr(orders, name).__module__, "topletter.orders")


if __name__ == "__main__":
    unittest.main()
